import Derived.Test.YtjnmokmchdfchaaGreatDoorZWs
import Derived.Test.YtjnmokmchdfchaaGreatDoorZWu
set_option maxRecDepth 1000000
set_option maxHeartbeats 0
set_option linter.all false
namespace Go.Proofs.YtjnmokmchdfchaaGreatDoor
open Go.RowKit Tryz
attribute[local go_sem↓]Go.wp_at_zero Go.wp_at_succ
variable{A:Addr}{p:Int}{b i j k l n:Nat}{S:Nat->Prop}{T:TypeId}{x y z:Value}{W v w:World}{s:aB}
def ju(o:Nat->Src)(ps:List Pt):Nat->Src:=λk=>{o k with ag:=λj=>(o k).ag j||nQ ps k j,eP:=(o k).eP||nT ps k}
def kF(o:Nat->Src)(q:Pt)(m:Nat):Nat->Src:=λk=>{o k with ag:=λj=>(o k).ag j||decide (q.st=k/\q.fr<=j/\j<m)}
theorem Ow(o:Nat->Src):ju o []=o:=by funext k;simp[ju,nQ,nT]
theorem Ox(o:Nat->Src)(a b:List Pt):ju (ju o a) b=ju o (a++b):=by funext k;simp[ju,nQ,nT,Bool.or_assoc]
theorem Oy(o:Nat->Src)(q:Pt):kF o q q.fr=o:=by
 funext k;unfold kF;have:(λj=>(o k).ag j||decide (q.st=k/\q.fr<=j/\j<q.fr))=(o k).ag:=by
  funext j;rw[bB (by omega),Bool.or_false]
 rw[this]
theorem Oz(o:Nat->Src)(q:Pt)(m:Nat)(b:q.fr<=m):aw (kF o q m) q.st {kF o q m q.st with ag:=aw (kF o q m q.st).ag m true}=kF o q (m+1):=by
 funext k;by_cases e:k=q.st;subst e;rw[bm];unfold kF;simp only[true_and]
 congr 1;funext j;unfold aw;by_cases e2:j=m;subst e2;simp[b];have a:j<m+1↔j<m:=by omega
 simp[e2,a];rw[bq _ _ e];unfold kF;have c:¬q.st=k:=λx=>e x.symm
 simp[c]
theorem OA(o:Nat->Src)(q:Pt):aw (kF o q q.en) q.st {kF o q q.en q.st with eP:=(o q.st).eP||q.fin}=ju o [q]:=by
 funext k;by_cases e:k=q.st;subst e;rw[bm];unfold kF ju;simp[nQ,nT];rw[bq _ _ e];have a:¬q.st=k:=λx=>e x.symm
 unfold kF ju;simp[nQ,nT,a]
theorem OB(a:s.fG)(hi:i<s.n)(h:(s.p i).on=true):({s with o:=ju (gL s.o (s.p i).parts (-1)) (s.p i).parts,wait:=4,p:=aw s.p i {s.p i with named:=true}}:aB)=nU s i:=by
 unfold nU;rw[<-Dr a hi {s.p i with named:=true} h (by simp[ct.on]),aM h];rfl
theorem OC(a:s.fG)(hi:i<s.n)(h:(s.p i).on=false):({s with o:=ju s.o (s.p i).parts,wait:=s.wait,p:=aw s.p i {s.p i with named:=true}}:aB)=nU s i:=by
 unfold nU;rw[<-NP a hi {s.p i with named:=true} (by rw[h];simp[ct.on]) rfl,h];rfl
theorem vJ.B{c:aB}(S:vJ s c j l)(h:fO s):fO c:=by
 have hp:∀i,(c.p i).parts=(s.p i).parts:=λi=>by rw[S.p];split<;>rfl
 refine⟨by rw[S.n];exact h.n,λi hi q d=>?_,λi hi=>?_,λk e=>by rw[(S.src k).2.1];exact h.sz k e⟩
 rw[S.n]at hi;rw[hp]at d;obtain⟨a,b,l⟩:=h.pt i hi q d;exact⟨a,b,by rw[(S.src _).2.1];exact l⟩
 rw[S.n]at hi;rw[hp];exact h.pl i hi
theorem Dw(h:n<=k)(d:k<=1000000):∀f∈[bA [⟨(n:Int),(k:Int)⟩]],f.ok/\dm f/\(f.ranges.length:Int)<=4611686018427387903:=by
 intro f c;rw[dB.1 c];refine⟨⟨by simp[bA,gC],by simp[bA,gC],by simp[bA,aR],by simp[bA,aR],λr a=>?_⟩,⟨⟨by simp[bA],by simp[bA],by simp[bA],by simp[bA]⟩,⟨λ_=>⟨by simp[bA],λi b=>?_⟩,λe=>by simp[bA]at e⟩,by simp[bA],by simp[bA]⟩,by simp[bA]⟩
 have a:r∈[(⟨(n:Int),(k:Int)⟩:Rg)]:=a;rw[dB.1 a];exact⟨by simp[aR];omega,by simp[aR];omega⟩
 have b:i<1:=b;obtain rfl:i=0:=by omega
 exact⟨by show(n:Int)<=k;omega,by show(k:Int)<=4611686018427387903;omega,λe=>by omega⟩
theorem O5{a c d:Value}(h:W.heap[b]?=some (.cells #[x,y,z,a,c,d] T (0,0))):W.cell? ⟨b,0,none⟩=some x/\W.cell? ⟨b,0+1,none⟩=some y/\W.cell? ⟨b,0+1+1,none⟩=some z/\W.cell? ⟨b,0+1+1+1,none⟩=some a/\W.cell? ⟨b,0+1+1+1+1,none⟩=some c/\W.cell? ⟨b,0+1+1+1+1+1,none⟩=some d:=by simp[World.cell?,h]
theorem O6{a c d:Value}(h:W.heap[b]?=some (.cells #[x,y,z,a,c,d] T (0,0))):W.frozen? ⟨b,0,none⟩=false/\W.frozen? ⟨b,0+1,none⟩=false/\W.frozen? ⟨b,0+1+1,none⟩=false/\W.frozen? ⟨b,0+1+1+1,none⟩=false/\W.frozen? ⟨b,0+1+1+1+1,none⟩=false/\W.frozen? ⟨b,0+1+1+1+1+1,none⟩=false:=by simp[World.frozen?,h]
theorem yB{h i j:Value}(l:w.heap[b]?=some (.cells #[x,y,z,h,i,j] T (0,0)))(a c d f g a5:Value):
 ((((((w.setCell ⟨b,0,none⟩ a).setCell ⟨b,1,none⟩ c).setCell ⟨b,2,none⟩ d).setCell ⟨b,3,none⟩ f).setCell ⟨b,4,none⟩ g).setCell ⟨b,5,none⟩ a5).heap[b]?=some (.cells #[a,c,d,f,g,a5] T (0,0))/\
 ak w ((((((w.setCell ⟨b,0,none⟩ a).setCell ⟨b,1,none⟩ c).setCell ⟨b,2,none⟩ d).setCell ⟨b,3,none⟩ f).setCell ⟨b,4,none⟩ g).setCell ⟨b,5,none⟩ a5) (λk=>k=b):=
 ⟨heap_set (heap_set (heap_set (heap_set (heap_set (heap_set l a) c) d) f) g) a5,(ak.of (aD (aD (aD (aD (aD (aD (av w (some b)) ⟨b,0,none⟩ a (.inr rfl)) ⟨b,1,none⟩ c (.inr rfl)) ⟨b,2,none⟩ d (.inr rfl)) ⟨b,3,none⟩ f (.inr rfl)) ⟨b,4,none⟩ g (.inr rfl)) ⟨b,5,none⟩ a5 (.inr rfl))).mono (λk _ e=>(aJ e).symm)⟩
theorem O7{s:ByteArray}(a:∀W,ak w W S->(convert 112 9 y).run prog W=.ok (.string s) W)(h:W.cell? A=some x/\(convert 112 9 y).run prog W=.ok (.string s) W/\ak w W S)(ob:Obj):
 (W.alloc ob).cell? A=some x/\(convert 112 9 y).run prog (W.alloc ob)=.ok (.string s) (W.alloc ob)/\ak w (W.alloc ob) S:=
 have C:=h.2.2.grow (aC W ob none)
 ⟨(aC W ob none).cell h.1 (by simp),a _ C,C⟩
theorem O8{s:ByteArray}(i:∀W,ak w W S->(convert 112 9 y).run prog W=.ok (.string s) W)(h:W.cell? A=some x/\(convert 112 9 y).run prog W=.ok (.string s) W/\ak w W S)(u:w.heap.size<=n)(hp:A.block≠n){t:TypeId}{j l m p q:Value}(r:W.heap[n]?=some (.cells #[z,j,l,m,p,q] t (0,0)))(a b c d f a5:Value):
 ((((((W.setCell ⟨n,0,none⟩ a).setCell ⟨n,1,none⟩ b).setCell ⟨n,2,none⟩ c).setCell ⟨n,3,none⟩ d).setCell ⟨n,4,none⟩ f).setCell ⟨n,5,none⟩ a5).cell? A=some x/\(convert 112 9 y).run prog ((((((W.setCell ⟨n,0,none⟩ a).setCell ⟨n,1,none⟩ b).setCell ⟨n,2,none⟩ c).setCell ⟨n,3,none⟩ d).setCell ⟨n,4,none⟩ f).setCell ⟨n,5,none⟩ a5)=.ok (.string s) ((((((W.setCell ⟨n,0,none⟩ a).setCell ⟨n,1,none⟩ b).setCell ⟨n,2,none⟩ c).setCell ⟨n,3,none⟩ d).setCell ⟨n,4,none⟩ f).setCell ⟨n,5,none⟩ a5)/\ak w ((((((W.setCell ⟨n,0,none⟩ a).setCell ⟨n,1,none⟩ b).setCell ⟨n,2,none⟩ c).setCell ⟨n,3,none⟩ d).setCell ⟨n,4,none⟩ f).setCell ⟨n,5,none⟩ a5) S:=
 have g:=(yB r a b c d f a5).2
 have C:=(h.2.2.trans g).mono (λk v e=>e.elim id (λe=>by omega))
 ⟨g.cell h.1 hp,i _ C,C⟩
theorem DF{V a:aB}{s:ByteArray}(d:∀W,ak w W (λk=>V.tag k≠none)->(convert 112 9 y).run prog W=.ok (.string s) W)(T:aY W n {V with aV:=p} a v)(C:ak w W (λk=>V.tag k≠none))(f:a.xb=i:=by rfl):
 v.cell? ⟨n,0,none⟩=some (.pointer (some ⟨i,0,none⟩))/\(convert 112 9 y).run prog v=.ok (.string s) v/\ak w v (λk=>V.tag k≠none):=
 have b:ak w v (λk=>V.tag k≠none):=(C.trans T.aq).mono (λk _ e=>e.elim id id)
 ⟨f▸T.at_.c.1.1,d _ b,b⟩
theorem O9(w:World)(sb:Nat)(V:aB)(H:bH w sb V)(hL:Laid w)(hC:V.fG)(hV:fO V)(lo hi:Nat)(hh:lo<=hi)(kl:hi<V.n)(n:Nat)(ht:eh n V.st)(hn:n<=100000)(ha:0<=V.aV/\V.aV<=1000000000)(al:aK)(ds:V.st.do ⟨6,0,0,0,strOfNums (cT V.key (sd false) V.aV (bu [bA [⟨lo,hi⟩]]))⟩=(⟨0,-1,0,0,[],[]⟩,al))(hx:(bu [bA [(⟨(lo:Int),(hi:Int)⟩:Rg)]]).length<=200):
 Calls prog 59 #[.pointer (some ⟨sb,0,none⟩),.int .i64 lo,.int .i64 hi] w λe G=>e=.returned (.bool true)/\∃A' hy,aY w sb V (j9 {V with st:=al,A:=A',tag:=hy,aV:=V.aV+1} lo hi) G:=by
 have kI:=hV.n;obtain⟨W1,br⟩:=exq ((w.alloc (.cells #[.int .u64 lo,.int .u64 hi] 200)).alloc (.cells #[.int .i64 3,.int .i64 0,.int .u64 0,.int .u64 0,.bool false,.string ⟨#[]⟩,.slice (some ⟨w.heap.size,0,none⟩) 1 1] 158));have g1:w.grownBy W1 none:=by rw[br];exact aj (aC _ _ none) (aC _ _ none)
 have b0:W1.heap[w.heap.size]?=some (.cells #[.int .u64 lo,.int .u64 hi] 200 (0,0)):=by rw[br];exact(heap_alloc_old _ _ (by rw[dC];omega)).trans (aH _ _)
 have b1:W1.heap[w.heap.size+1]?=some (.cells #[.int .i64 3,.int .i64 0,.int .u64 0,.int .u64 0,.bool false,.string ⟨#[]⟩,.slice (some ⟨w.heap.size,0,none⟩) 1 1] 158 (0,0)):=by
  rw[br];have:=aH (w.alloc (.cells #[.int .u64 lo,.int .u64 hi] 200)) (.cells #[.int .i64 3,.int .i64 0,.int .u64 0,.int .u64 0,.bool false,.string ⟨#[]⟩,.slice (some ⟨w.heap.size,0,none⟩) 1 1] 158);rw[dC]at this;exact this
 have b7:=Dw hh (show hi<=1000000 by omega);have hF:mr W1 (some ⟨w.heap.size+1,0,none⟩) 1 1 [bA [⟨(lo:Int),(hi:Int)⟩]]:=by
  refine⟨rfl,aI _,by simp[maxLen],.inr ⟨_,_,rfl,λi O=>?_⟩⟩
  have O:i<1:=O;obtain rfl:i=0:=by omega
  refine⟨.slice (some ⟨w.heap.size,0,none⟩) 1 1,⟨(b7 _ (dB.2 rfl)).1,by show(0:Nat)<=_;omega,some ⟨w.heap.size,0,none⟩,1,rfl,⟨(b7 _ (dB.2 rfl)).1.2.2.2.2,rfl,aI _,by simp[maxLen],.inr ⟨_,_,rfl,λj u hj=>?_⟩⟩⟩,λj u hj=>?_⟩
  rw[dv,aU b0];rw[<-od]at hj;exact hj;rw[show 0+0*7+j=j by omega,aU b1];rw[<-od]at hj;exact hj
 have T1:=aY.refl H g1 hL;have e9:=Ov W1 _ 1 1 _ hF (by simp[fk,lS,bA];exact(by decide:41+(⟨#[]⟩:ByteArray).size<=30000000)) (by simp) T1.laid;have fa:qv [bA [(⟨(lo:Int),(hi:Int)⟩:Rg)]]:=⟨by simp,λi O=>by
  have O:i<1:=O;obtain rfl:i=0:=by omega
  exact(b7 _ (dB.2 rfl)).2.1⟩
 have fb:IntKind.u64.wrap (lo:Int)=(lo:Int):=by simp[IntKind.wrap,IntKind.bits,IntKind.signed];omega
 have ff:IntKind.u64.wrap (hi:Int)=(hi:Int):=by simp[IntKind.wrap,IntKind.bits,IntKind.signed];omega
 obtain⟨E,bb⟩:=exq (bu [bA [(⟨(lo:Int),(hi:Int)⟩:Rg)]]);have du:Calls prog 90 #[.slice (some ⟨w.heap.size+1,0,none⟩) 1 1] W1 λe G=>∃a' n' c',e=.returned (.tuple #[.slice a' n' c',.int .i64 0])/\bh G a' n' c' E/\aY w sb V V G:=by
  refine e9.mono ?_;rintro e X⟨⟨-,a',n',c',rfl,hO⟩|⟨hz,-⟩,g2⟩;exact⟨a',n',c',rfl,by rw[bb];exact hO.fB,T1.gb g2⟩
  exact absurd fa hz
 have fo:=J (λ(W:World)(a':Option Addr)(n' c':Nat)(aa:bh W a' n' c' E)=>Oh V.key false V.aV a' n' c' E W H.key (by unfold aR;omega) aa (by rw[bb];omega));have hB:=H.key;have dx:Hid ((prog.info? 24).map (·.size)=some (bv V.key).length):=J (by rw[fK,H.key.1];exact mh);obtain⟨va,vc,hv,-⟩:=ix H.aE;replace du:=J du;clear e9 hF b7 fa b0 b1;replace T1:=J T1;replace H:=J H;replace hL:=J hL;replace hV:=J hV;replace hC:=J hC;replace ds:=J ds;replace bb:=J bb;go_enter func59,ntmps59;go_upto_region 4 with(go_at_call 90;first|rw[<-br]|skip;refine(Z du).mono ?_;rintro e X⟨a2,n2,c2,rfl,b8,T2⟩)
 clear br fb ff;have ca:X.rangeAt sb 3 (bv V.key)/\X.grownBy X none:=⟨T2.at_.pS,av _ _⟩
 have dE:X.cell? ⟨sb,23,none⟩=some (.int .u64 V.aV):=T2.at_.c.1.2.2.2.2.2.2.2;have dE:=kc dE;have fq:∀x∈cT V.key (sd false) V.aV E,W8 x:=s9 b8.1;have bt:=Z fo X.drew a2 n2 c2 (b8.ah (aP (av _ none)));unfold b9 at bt;replace bt:=J bt;replace b8:=J b8;replace T2:=J T2;clear fo;replace dx:=Z dx;have hE:=underlying24;go_region_held3 (λW=>W.rangeAt sb 3 (bv V.key)/\X.grownBy W none)
  (first|with_reducible exact fs|with_reducible exact ca|with_reducible exact ir ca (aP (av _ none)))
  (first|(go_at_call 91;refine(Z bt).mono ?_;rintro e P⟨a0,rfl,k2,bx,g3⟩;have fs:=ir (ir ca (aP (av _ none))) g3))
 have I:=((Z T2).gb (aP (av _ none))).gb g3;have hH:P.cell? ⟨sb,23,none⟩=some (.int .u64 V.aV):=I.at_.c.1.2.2.2.2.2.2.2;have cf:=I.at_.c.2 23;have s:=I.trans (I.at_.NC I.laid (V.aV+1));have kw:IntKind.u64.wrap (V.aV+1)=V.aV+1:=by simp[IntKind.wrap,IntKind.bits,IntKind.signed];omega
 have fv:V.tag a0=none:=(Z T2).at_.fresh (by have:X.drew.heap.size=X.heap.size:=rfl;omega);obtain⟨b,ax⟩:=exq (P.setCell ⟨sb,23,none⟩ (.int .u64 (V.aV+1)));rw[<-ax]at s;have bz:b.heap[a0]?=some (.cells (bv (cT V.key (sd false) V.aV E)).toArray 5 (0,0)):=by
  rw[ax];exact((jl P sb 23 _).block a0 (aO.1 bx).1 (λe=>by have:=I.at_.tS;rw[<-e]at this;have h2:V.tag a0=some 1:=this;rw[fv]at h2;cases h2)).trans bx
 have k6:E.length<=200:=by rw[Z bb];exact hx
 have hI:V.tag a0=none:=fv;have Y:=λ(W:World)(C:ak b W (λk=>V.tag k≠none))=>sq (s8 ((C.block a0 (aO.1 bz).1 (λh=>h hI)).trans bz) fq 0 (E.length+16) (E.length+16) (by rw[m8];omega) (aI _) (by simp[maxLen];omega))
 have fy:((cT V.key (sd false) V.aV E).drop 0).take (E.length+16)=cT V.key (sd false) V.aV E:=by rw[om,eG (by rw[m8];exact aI _)]
 rw[fy]at Y;have c0:b.cell? ⟨sb,0,none⟩=some (.pointer (some ⟨V.xb,0,none⟩)):=s.at_.c.1.1;have hD:=λ(W:World)(g:b.grownBy W none)=>pZ (aY.refl (s.gb g).at_ (av W none) (s.gb g).laid) (b:={V with aV:=V.aV+1}) (r:=⟨0,-1,0,0,[],[]⟩) (d:=al) ht hn ⟨6,0,0,0,strOfNums (cT V.key (sd false) V.aV E)⟩ (by simp[aR]) (by show(strOfNums _).size<=_;rw[strOfNums_size,m8];omega) (by rw[Z bb];exact Z ds)
 unfold dc qF mE at hD;simp only[qy]at hD;replace hD:=J hD;have gr:b.grownBy b.drew none:=aP (av _ none);have gA:b.grownBy (b.alloc (.cells #[.int .i64 0,.int .i64 0,.int .i64 0,.int .u64 0,.string ⟨#[]⟩,.slice none 0 0] 46)).drew none:=aP (aC _ _ none);have hA:Hid ((b.alloc (.cells #[.int .i64 0,.int .i64 0,.int .i64 0,.int .u64 0,.string ⟨#[]⟩,.slice none 0 0] 46)).drew.heap[b.heap.size]?=some (.cells #[.int .i64 0,.int .i64 0,.int .i64 0,.int .u64 0,.string ⟨#[]⟩,.slice none 0 0] 46 (0,0))):=J (aH b _);have dG:b.drew.cell? ⟨sb,0,none⟩=some (.pointer (some ⟨V.xb,0,none⟩))/\(convert 112 9 (.slice (some ⟨a0,0,none⟩) (E.length+16) (E.length+16))).run prog b.drew=.ok (.string (strOfNums (cT V.key (sd false) V.aV E))) b.drew/\ak b b.drew (λk=>V.tag k≠none):=
  have C:=(ak.rfl' b (λk=>V.tag k≠none)).grow gr
  ⟨gr.cell c0 (by simp),Y _ C,C⟩
 have ee:=(show _/\_/\ak b _ (λk=>V.tag k≠none)from⟨gA.cell c0 (by simp),Y _ ((ak.rfl' b _).grow gA),(ak.rfl' b _).grow gA⟩)
 have fA:Hid (sb≠b.heap.size):=J (λe=>by have:=s.at_.tS;rw[e,s.at_.fresh (aI _)]at this;cases this);have bL:∀k,b.heap.size<=k->V.tag k=none:=λk hk=>s.at_.fresh hk
 replace bL:=J bL;have hK:w.heap.size<=b.heap.size:=s.aq.size;clear bt fs ca dE bx fy c0;replace Y:=J Y;replace bz:=J bz;replace I:=J I;replace s:=J s;go_upto_region 6 with fail;rw[<-ax];clear ax hH cf kw;obtain⟨bM,hZ⟩:∃bM,bM=λ(v:Value)(wx:World)=>∃R a m c F l,v=.pointer (some ⟨R,0,none⟩)/\wx.heap[R]?=some (.cells #[.int .i64 0,.int .i64 (-1),.int .i64 0,.int .u64 0,.string ⟨#[]⟩,.slice a m c] 46 (0,0))/\aY w sb V {V with aV:=V.aV+1,st:=al,A:=F,tag:=l} wx/\l R=none:=⟨_,rfl⟩
 have bP:∀v wx R a m c F l,v=.pointer (some ⟨R,0,none⟩)->wx.heap[R]?=some (.cells #[.int .i64 0,.int .i64 (-1),.int .i64 0,.int .u64 0,.string ⟨#[]⟩,.slice a m c] 46 (0,0))->aY w sb V {V with aV:=V.aV+1,st:=al,A:=F,tag:=l} wx->l R=none->bM v wx:=by rw[hZ];exact λv wx R a m c F l h1 h2 h3 h4=>⟨R,a,m,c,F,l,h1,h2,h3,h4⟩
 have ch:∀v wx,bM v wx->∃R a m c F l,v=.pointer (some ⟨R,0,none⟩)/\wx.heap[R]?=some (.cells #[.int .i64 0,.int .i64 (-1),.int .i64 0,.int .u64 0,.string ⟨#[]⟩,.slice a m c] 46 (0,0))/\aY w sb V {V with aV:=V.aV+1,st:=al,A:=F,tag:=l} wx/\l R=none:=by rw[hZ];exact λv wx h=>h
 replace bP:=J bP;replace ch:=J ch;clear hZ;go_cut [10] (λv wx=>bM v wx);case first=>
  go_region_held3 (λW=>W.cell? ⟨sb,0,none⟩=some (.pointer (some ⟨V.xb,0,none⟩))/\(convert 112 9 (.slice (some ⟨a0,0,none⟩) (E.length+16) (E.length+16))).run prog W=.ok (.string (strOfNums (cT V.key (sd false) V.aV E))) W/\ak b W (λk=>V.tag k≠none))
   (first|with_reducible exact O8 (Z Y) cj (aI _) (Z fA) bS _ _ _ _ _ _|with_reducible exact cj|with_reducible exact O7 (Z Y) cj _|with_reducible exact dG|with_reducible exact ee)
   (first
     |(go_at_call 28;refine(Z hD _ gA).mono ?_;rintro e w5⟨a,m,c,F,l,rfl,-,d,-⟩;have bS:=(d.aq.block b.heap.size (aO.1 (Z hA)).1 (λh=>h (Z bL _ (aI _)))).trans (Z hA);obtain⟨y0,y1,y2,y3,y4,y5⟩:=O5 bS;obtain⟨z0,z1,z2,z3,z4,z5⟩:=O6 bS;have ga:=(d.all b.heap.size (aO.1 (Z hA)).1).trans (Z bL _ (aI _));have cj:=DF (Z Y) d ee.2.2;have d:=((Z s).gb gA).trans d)
     |(go_at_call 28;refine(Z hD _ gr).mono ?_;rintro e w5⟨a,m,c,F,l,rfl,-,d,-⟩;have cj:=DF (Z Y) d dG.2.2;have d:=((Z s).gb gr).trans d))
  all_goals go_wp2_with fail
  all_goals go_meet
  all_goals first
   |exact Z bP _ _ _ a m c F l rfl (yB bS _ _ _ _ _ _).1 (d.other (yB bS _ _ _ _ _ _).2 (Z hL).lt (λk e=>by subst e;exact⟨ga,hK⟩)) ga
   |exact Z bP _ _ _ a m c F l rfl (aH _ _) (d.gb (aC _ _ _)) (d.at_.fresh (aI _))
 case rest=>
  rename World=>w6
  obtain⟨R,a,m,c,F,l,rfl,bR,f,tR⟩:=Z ch _ _ hcut;obtain⟨K,a1⟩:∃K:aB,K={V with aV:=V.aV+1,st:=al,A:=F,tag:=l}:=⟨_,rfl⟩
  rw[<-a1]at f;have hN:=J (rV K (by rw[a1];exact Z hC) lo);have gd:Hid (fO K):=J (by rw[a1];exact⟨(Z hV).n,(Z hV).pt,(Z hV).pl,(Z hV).sz⟩);have e1:K.n=V.n:=by rw[a1]
  have e2:K.vs=.slice va V.n vc:=by rw[a1];exact hv
  have e3:K.tag R=none:=by rw[a1];exact tR
  have hM:Hid (j9 {V with st:=al,A:=F,tag:=l,aV:=V.aV+1} lo hi=j9 K lo hi):=J (by rw[a1]);obtain⟨ob,cp⟩:=exq (Obj.cells #[.int .i64 0,.int .i64 (-1),.int .i64 0,.int .u64 0,.string ⟨#[]⟩,.slice a m c] 46 (0,0));rw[<-cp]at bR;replace cp:=J cp;clear hcut bP ch hD bL gr gA hA Y dG ee fA bz I s a1 hV hC tR hv fq dx hE hB;replace f:=J f;replace bR:=J bR;replace e3:=J e3;go_wp2_with fail;go_loopw [11] (λiv wr=>∃c:Nat,lo+c<=hi+1/\iv=.int .i64 ((lo+c:Nat):Int)/\aY w sb V (kE K lo c) wr/\wr.heap[R]?=some ob) (λiv _=>hi+1-(intOf iv).toNat);case atStart=>exact⟨0,by omega,rfl,Z f,Z bR⟩
  case round=>
   clear f bR;obtain⟨c,hc,rfl,T,bR⟩:=hrel;obtain⟨i,O⟩:=exq (lo+c);have S:=Z hN c;have eg:Hid (kE K lo (c+1)=nU (kE K lo c) i):=J (by rw[O];rfl);obtain⟨U,hU⟩:=exq (kE K lo c);rw[<-hU]at T S eg;rw[<-O];by_cases k7:i<=hi
   ·have d1:decide ((i:Int)<=(hi:Int))=true:=bp (by omega);have L:i<U.n:=by rw[S.n,e1];omega
    have i0:(0:Int)<=(i:Int):=by omega
    have i1:(i:Int)<(V.n:Int):=by omega
    have eV:U.vs=.slice va V.n vc:=by rw[S.mem.2.2.2.2.2.2.2.2.1];exact e2
    have cv:=S.cU;have a4:=S.B (Z gd);have tU:U.tag R=none:=by rw[S.mem.2.2.2.2.2.2.2.2.2];exact Z e3
    have hP:Hid (Value.int .i64 ((i:Int)+1)=.int .i64 ((lo+(c+1):Nat):Int)):=J (by rw[O];congr 1);have hQ:Hid (lo+(c+1)<=hi+1):=J (by omega);obtain⟨⟨-,-,-,-,fP,-,-,-⟩,-⟩:=T.at_.c;rw[eV]at fP;obtain⟨g,rfl,cg⟩:=(T.at_.row eV).2 i L;have b3:=T.at_.pk i L;have hO:=vH wr (.pointer (some ⟨sb,0,none⟩)) _ _ b3;have cw:=ys wr sb U T.at_ T.laid i L (-1) (.inr rfl) (a4.pt i L) (a4.tr cv) (by have:=a4.pl i L;omega);have cx:=J (OB cv L);have cy:=J (OC cv L);have c9:=a4.pt i L;have hR:=a4.pl i L;have hT:=J a4.sz;obtain⟨pa,pc,gf,-⟩:=ix b3.parts;have db:Hid (∀(W:World)(o':Nat->Src)(wt:Int),bH W sb {U with o:=o',wait:=wt,p:=aw U.p i {U.p i with named:=true}}->W.cell? ⟨(U.pl i).1,1,none⟩=some (.slice pa (U.p i).parts.length pc)/\∀j q,(U.p i).parts[j]?=some q->∃g,pa=some ⟨g,0,none⟩/\W.rangeAt g (j*4) (iy q)):=J (λW o' wt h=>by
     have h1:=h.pk i L;have h1:jM W (U.pl i) (aw U.p i {U.p i with named:=true} i):=h1;rw[bm]at h1;obtain⟨⟨-,c1,-⟩,-⟩:=h1.c;obtain⟨hW,hX,gg,-,-,h5,h6⟩:=ix h1.parts;have e:Value.slice pa (U.p i).parts.length pc=.slice hW (U.p i).parts.length hX:=gf.symm.trans gg;obtain⟨rfl,-,rfl⟩:=fS e;refine⟨c1.trans (by rw[gg]),λj q hq=>?_⟩
     have hq:(U.p i).parts[j]?=some q:=hq;cases pa with
     |none=>have:(U.p i).parts.length=0:=(h5 rfl).1;rw[r8 (by omega)]at hq;cases hq
     |some y=>
      obtain⟨ey,hr⟩:=h6 y rfl;exact⟨y.block,by rw[ey],by have:=Dj hr hq;rw[dv]at this;exact this⟩)
    have h7:=b3.c.2;have bx:=b3.c.1.2.2.2.1;obtain⟨P1,ei⟩:∃P1,P1=aw U.p i {U.p i with named:=true}:=⟨_,rfl⟩
    have ej:=J (λ(W:World)(o':Nat->Src)(wt:Int)(z:aY w sb V {U with o:=o',wait:=wt} W)=>(show aY w sb V {U with o:=o',wait:=wt,p:=P1} (W.setCell ⟨(U.pl i).1,3,none⟩ (.bool true))from by rw[ei];exact z.trans (z.at_.Dg z.laid (i:=i) L 3 (.bool true) {U.p i with named:=true} rfl rfl)));have k8:sb≠R:=λe=>by have:=T.at_.tS;rw[e,tU]at this;cases this
    have gh:(U.pl i).1≠R:=λe=>by have:=T.at_.nO i L R (.inl e.symm);rw[tU]at this;cases this
    rw[<-ei]at db cx cy;obtain⟨ps,b4⟩:=exq ((U.p i).parts);obtain⟨pb,a3⟩:=exq ((U.pl i).1);obtain⟨on,ek⟩:=exq ((U.p i).on);rw[<-b4,<-a3]at db;rw[<-b4,<-ek]at cx cy;rw[<-b4]at c9 hR cw;rw[<-a3]at cw ej gh;rw[<-a3]at cg;rw[<-a3,<-ek]at hO;obtain⟨Z2,de⟩:∃Z2,Z2=λ(wx:World)=>∃M wt,aY w sb V {U with o:=M,wait:=wt} wx/\wx.heap[R]?=some ob/\({U with o:=ju M ps,wait:=wt,p:=P1}:aB)=nU U i/\∀k,(M k).n=(U.o k).n:=⟨_,rfl⟩
    have gi:Hid (on=false->Z2 wr):=J (λh=>by rw[de];exact⟨U.o,U.wait,T,bR,Z cy h,λk=>rfl⟩);have gj:Hid (on=true->Calls prog 88 #[.pointer (some ⟨sb,0,none⟩),.pointer (some ⟨pb,0,none⟩),.int .i64 (-1)] wr λe G=>e=.returned (.tuple #[])/\G.cell? ⟨sb,22,none⟩=some (.int .i64 U.wait)/\G.frozen? ⟨sb,22,none⟩=false/\Z2 (G.setCell ⟨sb,22,none⟩ (.int .i64 4))):=J (λh=>by
     refine cw.mono ?_;rintro e G⟨rfl,z⟩;have hS:=z.trans (z.at_.yq z.laid 4);refine⟨rfl,z.at_.c.1.2.2.2.2.2.2.1,z.at_.c.2 22,?_⟩
     rw[de];exact⟨_,4,T.trans hS,(hS.aq.block R (aO.1 bR).1 (λh=>h tU)).trans bR,Z cx h,λk=>rfl⟩)
    have gn:Hid (∀wx,Z2 wx->∃M wt,aY w sb V {U with o:=M,wait:=wt} wx/\wx.heap[R]?=some ob/\({U with o:=ju M ps,wait:=wt,p:=P1}:aB)=nU U i/\∀k,(M k).n=(U.o k).n):=J (by rw[de];exact λ_ h=>h);replace hO:=J hO;replace c9:=J c9;replace tU:=J tU;replace hU:=J hU;replace O:=J O;replace b4:=J b4;clear cw de cx cy b3 gf ek T bR S eV cv a4 h7 bx ei;replace a3:=J a3;go_upto_if 72 with(go_at_call 56;refine(Z hO).mono ?_;rintro e X⟨rfl,rfl⟩)
    go_cut [13]from 57 to 147 (λ_ wx=>Z2 wx);case first=>
     go_wp2_with (go_at_call 88;refine(Z gj (by with_reducible assumption)).mono ?_;rintro e P⟨rfl,k9,f22,Z3⟩;replace Z3:=J Z3);all_goals go_meet
     all_goals first|exact Z Z3|exact Z gi (by with_reducible assumption)
    case rest=>
    rename World=>P
    obtain⟨M,wt,I,eo,gq,ep⟩:=Z gn _ hcut;clear hcut gn gj gi hO;have s:=Z ej P M wt I;have q3:P.cell? ⟨pb,3,none⟩=some (.bool (U.p i).named):=by rw[Z a3];exact(I.at_.pk i L).c.1.2.2.2.1
    have h8:P.frozen? ⟨pb,3,none⟩=false:=by rw[Z a3];exact(I.at_.pk i L).c.2 3
    obtain⟨lj,gu⟩:=exq ((U.p i).named);rw[<-gu]at q3;obtain⟨b,ax⟩:=exq (P.setCell ⟨pb,3,none⟩ (.bool true));have dg:b.heap[R]?=some ob:=by rw[ax];exact((jl P pb 3 _).block R (aO.1 eo).1 (λe=>gh e.symm)).trans eo
    rw[<-ax]at s;have gw:Hid (aY w sb V {U with o:=ju M (ps.take 0),wait:=wt,p:=P1} b):=J (by rw[tN,Ow];exact s);have h9:Hid (∀W,aY w sb V {U with o:=ju M ps,wait:=wt,p:=P1} W->aY w sb V (kE K lo (c+1)) W):=J (λW h=>by rw[Z eg,<-gq];exact h);have lk:Hid (U.tag R=none):=tU;clear I s eo gq gu ej eg hU;replace dg:=J dg;replace ep:=J ep;go_upto_region 16 with fail;rw[<-ax];clear ax q3 h8 cg fP;go_wp2_with fail;go_loopw [14] (λkv gz=>∃k:Nat,k<=ps.length/\kv=.int .i64 (k:Int)/\aY w sb V {U with o:=ju M (ps.take k),wait:=wt,p:=P1} gz/\gz.heap[R]?=some ob) (λkv _=>ps.length-(intOf kv).toNat);case atStart=>exact⟨0,by omega,rfl,Z gw,Z dg⟩
    case round=>
     clear gw dg b P;obtain⟨k,hk,rfl,d,b5⟩:=hrel;have k0:(0:Int)<=(k:Int):=by omega
     obtain⟨c1,ew⟩:=Z db wr _ _ d.at_;by_cases ez:k<ps.length
     ·have d2:decide ((k:Int)<(ps.length:Int))=true:=bp (by omega);have k1:(k:Int)<(ps.length:Int):=by omega
      have gB:=eF ez;obtain⟨b6,ih,ln⟩:=Z c9 ps[k] (nt ez);have gU:ps.take (k+1)=ps.take k++[ps[k]]:=by rw[nr,eF ez];rfl
      generalize ps[k]=q at *;obtain⟨g4,rfl,eK⟩:=ew k q gB;obtain⟨D,dk⟩:=exq (ju M (ps.take k));have jj:Hid (ju D [q]=ju M (ps.take (k+1))):=J (by rw[dk,Ox,gU]);have j0:=J (OA D q);have j1:Hid (∀k,(D k).n=(U.o k).n):=J (λk=>by rw[dk];exact Z ep k);rw[<-dk]at d;have gW:Hid (aY w sb V {U with o:=kF D q q.fr,wait:=wt,p:=P1} wr):=J (by rw[Oy];exact d);obtain⟨⟨-,-,-,gl,-,-,-,-⟩,-⟩:=d.at_.c;have co:=d.at_.outs q.st b6;obtain⟨st,fr,Q,fin⟩:=q;simp only at *;have y0:wr.cell? ⟨g4,k*4,none⟩=some (.int .i64 st):=eK 0 _ rfl;have y1:wr.cell? ⟨g4,k*4+1,none⟩=some (.int .i64 fr):=eK 1 _ rfl;obtain⟨lb,a8⟩:=exq ((U.sl st).1);rw[<-a8]at co;have s0:(0:Int)<=(st:Int):=by omega
      have s1:(st:Int)<4:=by omega
      replace d:=J d;replace b5:=J b5;replace a8:=J a8;clear ew dk gU eK;go_upto_region 19 with fail;go_region;go_wp2_with fail;clear y0 y1 co gl;go_loopw [16] (λjv gX=>∃m:Nat,fr<=m/\m<=Q/\jv=.int .i64 (m:Int)/\aY w sb V {U with o:=kF D ⟨st,fr,Q,fin⟩ m,wait:=wt,p:=P1} gX/\gX.heap[R]?=some ob) (λjv _=>Q-(intOf jv).toNat);case atStart=>exact⟨fr,by omega,ih,rfl,(Z gW).gb (aP (av _ none)),Z b5⟩
      case round=>
       clear gW b5 d;obtain⟨m,j2,lp,rfl,f,bj⟩:=hrel;have m0:(0:Int)<=(m:Int):=by omega
       refine qd λhG=>?_
       obtain⟨lB,g0⟩:=Z db wr _ _ f.at_;obtain⟨g5,e5,eL⟩:=g0 k _ gB;have j3:g4=g5:=fj Addr.block (aJ e5);subst j3;have y2:wr.cell? ⟨g4,k*4+2,none⟩=some (.int .i64 Q):=eL 2 _ rfl;have y3:wr.cell? ⟨g4,k*4+3,none⟩=some (.bool fin):=eL 3 _ rfl;have hS:=f.at_.src st b6;obtain⟨⟨-,s2,-,-,s4,-⟩,sf⟩:=hS.c;replace s2:wr.cell? ⟨lb,1,none⟩=some (U.sl st).2.1:=by rw[Z a8];exact s2
       replace s4:wr.cell? ⟨lb,4,none⟩=some (.bool (D st).eP):=by rw[Z a8];exact s4
       have j4:wr.frozen? ⟨lb,4,none⟩=false:=by rw[Z a8];exact sf 4
       have g7:=Z j1 st;have lX:Q<=1000000:=by have:=Z hT st b6;omega
       have dn:=Z tU;clear g0 eL e5;by_cases l0:m<Q
       ·have d3:decide ((m:Int)<(Q:Int))=true:=bp (by omega);obtain⟨g6,j5,e6,cf,fz⟩:=hS.ag (j:=m) (by show m<(D st).n;omega);have e4:(U.sl st).2.1=.slice (some ⟨g6,0,none⟩) (D st).n j5:=e6;have m1:(m:Int)<((D st).n:Int):=by omega
        have a9:=f.at_.Nz f.laid b6 (l:=g6) (by show(U.sl st).2.1.ownBlock=_;rw[e4];rfl) m true;have t:=f.trans a9;have N:=(a9.aq.block R (aO.1 bj).1 (λh=>h dn)).trans bj;have e7:=Oz D ⟨st,fr,Q,fin⟩ m j2;simp only at t e7;rw[e7]at t;rw[e4]at s2;obtain⟨kb,g8⟩:=exq ((kF D ⟨st,fr,Q,fin⟩ m st).ag m);have l1:wr.cell? ⟨g6,m,none⟩=some (.bool kb):=by rw[g8];exact cf
        have l2:=fz m;obtain⟨nn,g9⟩:=exq ((D st).n);rw[<-g9]at s2 m1;replace t:=J t;replace N:=J N;clear e7 a9 hS e6 e4 f bj sf s4 j4 y3 cf fz g8 g7 g9 dn;refine hG ?_;clear hG;go_wp2_with fail;exact⟨⟨m+1,by omega,by omega,rfl,Z t,Z N⟩,by simp[intOf];omega⟩
       have d3:decide ((m:Int)<(Q:Int))=false:=bB (by omega);obtain rfl:m=Q:=by omega
       obtain⟨fc,e8⟩:=exq ((D st).eP);have a9:=f.at_.vG f.laid b6 4 (.bool ((D st).eP||fin)) {kF D ⟨st,fr,m,fin⟩ m st with eP:=(D st).eP||fin} rfl rfl rfl rfl;have t:=f.trans a9;have N:=(a9.aq.block R (aO.1 bj).1 (λh=>h dn)).trans bj;have e7:=Z j0;simp only at t e7 N;rw[e7,Z jj]at t;rw[<-Z a8,<-e8]at t N;rw[<-e8]at s4;clear e7 a9 hS f bj sf s2 g7 dn e8;cases fc
       ·rw[Bool.false_or]at t N;replace t:=J t;replace N:=J N;refine hG ?_;clear hG;go_wp2_with fail;exact⟨⟨k+1,by omega,rfl,Z t,Z N⟩,by simp[intOf];omega⟩
       rw[Bool.true_or]at t N;replace t:=J t;replace N:=J N;refine hG ?_;clear hG;go_wp2_with fail;exact⟨⟨k+1,by omega,rfl,Z t,Z N⟩,by simp[intOf];omega⟩
     have d2:decide ((k:Int)<(ps.length:Int))=false:=bB (by omega);have kd:k=ps.length:=by omega
     rw[kd,lh]at d;have f:=Z h9 _ d;replace f:=J f;clear d ew;go_wp2_with fail;exact⟨⟨c+1,Z hQ,Z hP,Z f,b5⟩,by simp[intOf];omega⟩
   have d1:decide ((i:Int)<=(hi:Int))=false:=bB (by omega);have ec:c=hi+1-lo:=by omega
   have hf:=Ds wr sb U T.at_ T.laid S.cU (S.B (Z gd)) ((hi:Int)-3+1) (hi-2) (by rw[S.n,e1];omega) (λi _=>by omega);have fb:IntKind.i64.wrap ((hi:Int)-3)=(hi:Int)-3:=by simp[IntKind.wrap,IntKind.bits,IntKind.signed];omega
   have ff:IntKind.i64.wrap ((hi:Int)-3+1)=(hi:Int)-3+1:=by simp[IntKind.wrap,IntKind.bits,IntKind.signed];omega
   have tU:U.tag R=none:=by rw[S.mem.2.2.2.2.2.2.2.2.2];exact Z e3
   have kf:Hid (Calls prog 89 #[.pointer (some ⟨sb,0,none⟩),.int .i64 ((hi:Int)-3+1)] wr λe G=>e=.returned (.tuple #[])/\G.cell? ⟨R,0,none⟩=some (.int .i64 0)/\aY w sb V (j9 K lo hi) G):=J (by
    refine hf.mono ?_;rintro e G⟨rfl,z⟩;have aa:=(z.aq.block R (aO.1 bR).1 (λh=>h tU)).trans bR;rw[Z cp]at aa;refine⟨rfl,by simp[World.cell?,aa],?_⟩
    have hg:=T.trans z;rw[hU,ec]at hg;exact hg)
   clear hf T bR S;go_wp2_with (go_at_call 89;refine(Z kf).mono ?_;rintro e G⟨rfl,cR,z⟩;replace z:=J z);go_ret;exact⟨rfl,F,l,by rw[Z hM];exact Z z⟩
