import Derived.Carry
import Derived.ChangeMaps5
import Derived.ChangeSame
import Derived.ChangeVars
import Derived.Deep.DeepHandedRow
import Derived.Deep.SlicePairs
import Derived.JoinedOf
import Derived.LaidHandle
import Derived.LaidLaws
import Derived.OpenShut
import Derived.RowKit
import Derived.SevenTiedAt
import Derived.Stop.Joined
import Derived.Test.YtjnmokmchdfchaaGreatDoorCards
import Derived.Test.YtjnmokmchdfchaaGreatDoorRows
import Derived.Test.YtjnmokmchdfchaaGreatDoorTie
import Derived.WideKeyArr2
import Derived.Test.YtjnmokmchdfchaaGreatDoorZSo
set_option maxRecDepth 1000000
set_option maxHeartbeats 0
set_option linter.all false
namespace Go.Proofs.YtjnmokmchdfchaaGreatDoor
open Go.ChangeShapes Go.WideShapes Go.RowKit Go.Deep Tryz Go.Proofs.Tryz
def TK:ownKnob prog.godebug=none:=Φ
def TL:prog.globalNamed "errors.errorType" =some 0:=Φ
def TM:(prog.cutTypes.find? (·.1== "internal/reflectlite.rtype")).map (·.2)=some 273:=Φ
def TN:((List.range (543-100)).filter λt=>prog.rowNamed t [101,114,114,111,114])=[97]:=Φ
def TO{W:World}(h:laidMetH prog [("errors.errorType",Rows.laid_errors_errorType)] W):Laid W:=by
 have c:laidMet prog [] W/\handlesMet prog [("errors.errorType",Rows.laid_errors_errorType)] W:=h;obtain⟨name,u,ty,e1,e2,f,d,a⟩:=c.2 _ (eE.2 rfl);have en:name=[101,114,114,111,114]:=(aR e1).symm;subst en;obtain rfl:=aR (TM.symm.trans e2);have b:ty∈(List.range (543-100)).filter λt=>prog.rowNamed t [101,114,114,111,114]:=jV.2 ⟨wW.2 (by simp_all),d⟩
 rw[TN]at b;obtain rfl:=eE.1 b;have e:typeHandle prog 97=.pointer (some ⟨1,97,none⟩):=Φ;rw[e]at a;have:=World.var?_cell TL a 0;simpa [Laid]using this
def TP(os:Os)(args:Array Value):laidMetH prog [("errors.errorType",Rows.laid_errors_errorType)] (({World.holding prog os ⟨#[],#[],[]⟩with heap:=(World.holding prog os ⟨#[],#[],[]⟩).heap.modify 0 λ|.cells _ t frozen=>.cells #[.iface 273 (.agg #[.pointer (some ⟨1,97,none⟩)])] t frozen|o=>o}:World).forCall (λ_ _=>0) ⟨#[],args,[]⟩).memory:=
 laidMetH_of_parts (laidMet_nil _ _) Φ
def TQ{w a:World}(g:w.grownBy a none)(may:MemPlace->Prop):w.keptBut a may:=by
 refine⟨g.os,g.output,λi hi=>?_⟩
 rw[g.block i hi Γ];cases h:w.heap[i]? with
 |none=>rfl
 |some o=>cases o<;>simp
def wF{z:Int}(h:(Lit.int .i64 z).wf=true):ie z:=by
 simp[Lit.wf,IntKind.min,IntKind.max,IntKind.bits,IntKind.signed]at h;unfold ie;omega
def BB:prog.cellsOf 3=1:=Φ
def BC:prog.cellsOf 9=1:=Φ
section
variable {H:Type} {enc:TypeId×Value->H} {w:World}
def sX:Value->Int
 |.int _ z=>z
 |_=>0
def TR{l:List Rg}{j:Nat}{v:Value}(h:(cY l)[j]?=some v):∃i,i<l.length/\((j=i*2/\v=.int .u64 (an l i).lo)\/(j=i*2+1/\v=.int .u64 (an l i).hi)):=by
 have a:=(rS.1 h).1;rw[sd]at a;refine⟨j/2,O,?_⟩
 have b:=zm l (j/2) O;obtain e|e:=Nat.mod_two_eq_zero_or_one j
 grind;grind
def Hl{a:Addr}{v:Value}(h:w.cell? a=some v):a=⟨a.block,a.off,none⟩:=by
 let⟨b,o,s⟩:=a
 cases s with
 |none=>rfl
 |some k=>
  unfold World.cell? at h;split at h<;>simp at h
def wG{z:Int}(h:(Lit.int .u64 z).wf=true):aZ z:=by
 simp[Lit.wf,IntKind.min,IntKind.max,IntKind.bits,IntKind.signed]at h;unfold aZ;omega
def Hm{e:TypeId}{d:DataW H}{a:Nat}(i:a∈d.weights prog e):∀{l:List (DataW H)},d∈l->a∈DataW.weightsAll prog e l:=by
 intro l;induction l with
 |nil=>intro h;cases h
 |cons c l b=>
  intro h;simp only[DataW.weightsAll,b9]
  obtain rfl|h:=iD.1 h
  simp_all;simp_all
def TS:prog.bytesOf 200=16:=Φ
def TU:1<=prog.bytesOf 158:=of_decide_eq_true Φ
def TV{A:Nat}{v:Value}{x:DataW H×List MemPlace}(h:DataW.trod enc prog w 0 (λ_=>true) true A 133 [v]=some x):
 ∃ra k l,v=.slice ra (List.length l) k/\bq w ra (List.length l) k l/\((∀c∈x.1.weights prog 133,c<=reachBytes)->l.length<=140737488351232):=by
 obtain⟨e,rfl⟩|⟨a,len,k,m,n,f,g,S,T,V,W,e,-,hl,hm,u,rfl,b⟩:=open_slice_pairs underlying133 underlying200 Φ rfl rfl Φ Φ h
 simp only[qX,qv]at e;subst e;exact⟨_,0,[],rfl,⟨λr p=>by simp at p,rfl,aP _,by simp[maxLen],.inl rfl⟩,λ_=>Γ⟩
 simp only[qX,qv]at e;subst e;simp only[fw]at u;subst u;have q:∀i,i<m->∃lo hi,f i=.int .u64 lo/\g i=.int .u64 hi/\aZ lo/\aZ hi:=λi hi=>by
  obtain⟨-,-,B,C⟩:=b i hi;obtain⟨F,e0,-,s⟩:=om underlying30 B;obtain⟨K,e1,-,t⟩:=om underlying30 C;simp only[qX,qv]at e0 e1;exact⟨F,K,e0,e1,wG s,wG t⟩
 have d:((List.range len).map λi=>(⟨sX (f i),sX (g i)⟩:Rg)).length=len:=Γ;have y:∀i,i<len->an ((List.range len).map λi=>(⟨sX (f i),sX (g i)⟩:Rg)) i=⟨sX (f i),sX (g i)⟩:=λi hi=>by
  simp[an,List.getD,hi]
 refine⟨_,m,_,by rw[d],?_,λL=>?_⟩
 refine⟨?_,rfl,by rw[d];exact hl,hm,?_⟩
 intro r p;obtain⟨i,hi,rfl⟩:=fu.1 p;let⟨lo,z,e0,e1,s,t⟩:=q i (by have:=wW.1 hi;omega)
 simp only[e0,e1,sX]
 exact⟨s,t⟩
 by_cases h0:m=0;exact .inl h0;right;obtain⟨c0,-⟩:=b 0 O;have M:=Hl (by simpa [Addr.add]using c0);rw[M]at b⊢;refine⟨_,_,rfl,λj v P=>?_⟩
 obtain⟨i,hi,⟨rfl,rfl⟩|⟨rfl,rfl⟩⟩:=TR P;rw[d]at hi;obtain⟨c1,-⟩:=b i O;obtain⟨lo,z,e0,e1,-⟩:=q i O;rw[y i hi,e0];rw[add_plain,e0]at c1;exact c1;rw[d]at hi;obtain⟨-,c1,-⟩:=b i O;obtain⟨lo,z,e0,e1,-⟩:=q i O;rw[y i hi,e1];rw[add_plain,e1]at c1;exact c1;have R:=L ((len+(m-len))*16) (by simp[DataW.weights,underlying133,TS]);unfold reachBytes at R;rw[d];omega
def Hn:prog.cellsOf 30=1:=Φ
def TW:prog.cellsOf 4=1:=Φ
def TX:prog.cellsOf 133=1:=Φ
def TY:prog.cellsOf 92=1:=Φ
def Ho:prog.cellsOf 158=7:=Φ
def TZ:prog.cellsOf 32=5:=Φ
def Hp:prog.cellsOf 94=10:=Φ
def Hs{α:Type}{l:List α}(h:l.length=7):∃a b c d e f g,l=[a,b,c,d,e,f,g]:=by
 match l,h with
 |[a,b,c,d,e,f,g],_=>exact⟨a,b,c,d,e,f,g,rfl⟩
def T0{α:Type}{l:List α}(h:l.length=5):∃a b c d e,l=[a,b,c,d,e]:=by
 match l,h with
 |[a,b,c,d,e],_=>exact⟨a,b,c,d,e,rfl⟩
def T4{α:Type}{l:List α}(h:l.length=6):∃a b c d e f,l=[a,b,c,d,e,f]:=by
 match l,h with
 |[a,b,c,d,e,f],_=>exact⟨a,b,c,d,e,f,rfl⟩
def T6{α:Type}{l:List α}(h:l.length=10):∃a b c d e f g i x8 j,l=[a,b,c,d,e,f,g,i,x8,j]:=by
 match l,h with
 |[a,b,c,d,e,f,g,i,x8,j],_=>exact⟨a,b,c,d,e,f,g,i,x8,j,rfl⟩
def Ht{y:Nat}{b:List Value}{x:DataW H×List MemPlace}(h:DataW.trod enc prog w 0 (λ_=>true) true y 158 b=some x):
 ∃(f:Fr)(d:Value),b=iN f d/\cD w f d/\((∀c∈x.1.weights prog 158,c<=reachBytes)->f.data.size<=140737488351232/\f.ranges.length<=140737488351232):=by
 obtain⟨W,n,-,rfl,e,z,a⟩:=DataW.trod_struct underlying158 h;rw[Ho]at e;obtain⟨v0,v1,v2,v3,v4,v5,v6,rfl⟩:=Hs e;obtain⟨y0,y1,y2,y3,y4,y5,y6,rfl⟩:=Hs z;have g:=a 0 _ rfl;have i:=a 1 _ rfl;have j:=a 2 _ rfl;have k:=a 3 _ rfl;have m:=a 4 _ rfl;have p:=a 5 _ rfl;have q:=a 6 _ rfl;simp[BB,Hn,TW,BC,TX]at g i j k m p q;obtain⟨A,e0,-,B⟩:=om underlying3 g;obtain⟨C,e1,-,F⟩:=om underlying3 i;obtain⟨z2,e2,-,K⟩:=om underlying30 j;obtain⟨L,r,-,k3⟩:=om underlying30 k;obtain⟨M,s,-⟩:=DataW.trod_bool underlying4 m;obtain⟨P,t,rfl,k5⟩:=DataW.trod_string underlying9 p;let⟨ra,R,l,S,u,T⟩:=TV q
 simp only[qX,qv]at e0 e1 e2 r s t;subst e0 e1 e2 r s t S;refine⟨⟨A,C,z2,L,M,P,l⟩,_,rfl,⟨⟨wF B,wF F,wG K,wG k3,u.1⟩,?_,ra,R,rfl,u⟩,λv=>⟨v _ (by simp[DataW.weights,DataW.weightsEach,underlying158]),T λc V=>v c (by simp[DataW.weights,DataW.weightsEach,underlying158,V])⟩⟩
 unfold maxLen at k5;omega
instance:Inhabited (Fr×Value):=⟨(⟨0,0,0,0,false,ByteArray.empty,[]⟩,.nilIface)⟩
def T9{u:Nat}{v:Value}{x:DataW H×List MemPlace}(h:DataW.trod enc prog w 0 (λ_=>true) true u 92 [v]=some x):
 ∃a n p fs,v=.slice a n p/\lq w a n p fs/\((∀c∈x.1.weights prog 92,c<=reachBytes)->n<=140737488351232/\∀j,j<fs.length->(eR fs j).data.size<=140737488351232/\(eR fs j).ranges.length<=140737488351232):=by
 obtain⟨e,rfl⟩|⟨b,n,p,m,R,D,S,e,-,hl,hm,y,rfl,r⟩:=open_slice underlying92 h
 simp only[qX,qv]at e;exact⟨_,0,0,[],e,⟨rfl,aP _,by simp[maxLen],.inl rfl⟩,λ_=>⟨O,λj d=>by cases d⟩⟩
 simp only[qX,qv]at e;subst e;subst y;rw[Ho]at r;have z:m≠0->b=⟨b.block,b.off,none⟩:=λh0=>by
  let⟨A,g,k⟩:=r 0 O
  obtain⟨f,t,rfl,-,-⟩:=Ht k;obtain⟨-,B,s⟩:=World.cells?_some g;have C:=s 0 O;exact Hl (by simpa [Addr.add,iN]using C)
 have each:∀i,i<n->∃q:Fr×Value,w.rangeAt b.block (b.off+i*7) (iN q.1 q.2)/\cD w q.1 q.2/\((∀c∈(D i).weights prog 158,c<=reachBytes)->q.1.data.size<=140737488351232/\q.1.ranges.length<=140737488351232):=λi hi=>by
  let⟨A,g,k⟩:=r i O
  obtain⟨f,t,rfl,F,l⟩:=Ht k;obtain⟨-,B,s⟩:=World.cells?_some g;refine⟨(f,t),λj v d=>?_,F,l⟩
  have K:j<7:=by grind
  have:=s j K;rw[z O,add_add,add_plain,d]at this;rw[pS];exact this
 let⟨q,L⟩:=choose_lt each
 have M:∀i,i<n->eR ((List.range n).map λi=>(q i).1) i=(q i).1:=λi hi=>by
  simp[eR,List.getD,hi]
 refine⟨some b,n,m,(List.range n).map λi=>(q i).1,rfl,⟨Γ,hl,hm,?_⟩,λl=>⟨?_,λj d=>?_⟩⟩
 grind;have g:=l ((n+(m-n))*prog.bytesOf 158) (by simp[DataW.weights,underlying92]);unfold reachBytes at g;have k:=Nat.le_mul_of_pos_right (n+(m-n)) TU;omega;simp only[fF,List.length_range]at d;rw[M j d];exact(L j d).2.2 λc P=>l c (by simp only[DataW.weights,underlying92,iD,b9];exact .inr (.inl (Hm P (fu.2 ⟨j,wW.2 d,rfl⟩))))
def Ua{F:Nat}{e:List Value}{x:DataW H×List MemPlace}(h:DataW.trod enc prog w 0 (λ_=>true) true F 94 e=some x):
 ∃s:iA,e=(jB s).toList/\((∀c∈x.1.weights prog 94,c<=reachBytes)->sU w s):=by
 obtain⟨xs,n,-,rfl,f,K,a⟩:=DataW.trod_struct underlying94 h;rw[Hp]at f;obtain⟨v0,v1,v2,v3,v4,v5,v6,v7,v8,v9,rfl⟩:=T6 f;obtain⟨y0,y1,y2,y3,y4,y5,rfl⟩:=T4 K;have g:=a 0 _ rfl;have i:=a 1 _ rfl;have j:=a 2 _ rfl;have k:=a 3 _ rfl;have l:=a 4 _ rfl;have m:=a 5 _ rfl;simp[BB,BC,TZ,TY]at g i j k l m;obtain⟨L,e0,-,k0⟩:=om underlying3 g;obtain⟨M,e1,-,P⟩:=om underlying3 i;obtain⟨z2,e2,-,R⟩:=om underlying3 j;let⟨la,ln,lc,fs,S,hF,T⟩:=T9 l
 obtain⟨V,p,rfl,-⟩:=DataW.trod_string underlying9 m;obtain⟨qs,n',-,rfl,ca,W,b⟩:=DataW.trod_struct underlying32 k;obtain⟨u0,u1,u2,u3,u4,rfl⟩:=T0 W;have q:=b 0 _ rfl;have r:=b 1 _ rfl;have t:=b 2 _ rfl;have u:=b 3 _ rfl;have v:=b 4 _ rfl;simp[BB,BC,Hn]at q r t u v;obtain⟨z3,y,-,k3⟩:=om underlying3 q;obtain⟨z4,z,-,k4⟩:=om underlying3 r;obtain⟨z5,A,-,k5⟩:=om underlying3 t;obtain⟨z6,B,-,k6⟩:=om underlying30 u;obtain⟨z7,C,rfl,-⟩:=DataW.trod_string underlying9 v;simp only[qX,qv]at e0 e1 e2 y z A B C p;subst e0 e1 e2 y z A B C S p;refine⟨⟨L,M,z2,⟨z3,z4,z5,z6,z7⟩,la,ln,lc,fs,V⟩,rfl,λd=>?_⟩
 let⟨f1,f2⟩:=T λc hc=>d c (by simp[DataW.weights,DataW.weightsEach,underlying94,hc])
 exact⟨wF P,wF R,wF k5,wG k6,hF,d _ (by simp[DataW.weights,DataW.weightsEach,underlying94,underlying32]),d _ (by simp[DataW.weights,DataW.weightsEach,underlying94]),f1,f2⟩
def Ub{l:Nat}{a:Option Addr}{n f:Nat}{x:DataW H×List MemPlace}(p:∀y,a=some y->y.spot=none)(h:DataW.trod enc prog w 0 (λ_=>true) true l 22 [.slice a n f]=some x)(r:∀c∈x.1.weights prog 22,c<=reachBytes):
 ∃t,rQ w a n f t:=by
 obtain⟨e,rfl⟩|⟨b,len,M,m,P,D,R,e,-,hl,hm,u,rfl,g⟩:=open_slice underlying22 h
 simp only[qX,qv,wQ]at e;obtain⟨rfl,rfl,rfl⟩:=e;exact⟨[],rfl,aP _,by simp[maxLen],λs hs=>(by cases hs),.inl rfl⟩
 simp only[qX,qv,wQ]at e;obtain⟨rfl,rfl,rfl⟩:=e;subst u;have k:b=⟨b.block,b.off,none⟩:=by
  obtain⟨b1,b2,z⟩:=b;obtain rfl:z=none:=p _ rfl;rfl
 rw[Hp]at g;have each:∀i,i<n->∃q:iA,w.rangeAt b.block (b.off+i*10) (jB q).toList/\sU w q:=λi hi=>by
  let⟨S,A,B⟩:=g i O
  obtain⟨s,rfl,d⟩:=Ua B;replace d:=d λc C=>r c (by simp only[DataW.weights,underlying22,iD,b9];exact .inr (.inl (Hm C (fu.2 ⟨i,wW.2 hi,rfl⟩))))
  obtain⟨-,T,F⟩:=World.cells?_some A;refine⟨s,λj v K=>?_,d⟩
  have L:j<10:=by grind
  have:=F j L;rw[k,add_add,add_plain,K]at this;rw[pS];exact this
 have:Inhabited iA:=⟨⟨0,0,0,⟨0,0,0,0,ByteArray.empty⟩,none,0,0,[],ByteArray.empty⟩⟩
 let⟨q,V⟩:=choose_lt each
 have W:∀i,i<n->gO ((List.range n).map λi=>q i) i=q i:=λi hi=>by
  simp[gO,List.getD,hi]
 refine⟨(List.range n).map λi=>q i,Γ,hl,hm,λs hs=>?_,.inr ⟨b.block,b.off,fR some k,λi hi=>?_⟩⟩
 grind;grind
end
def Uc:prog.types.size=543-101+1:=by kernel_rfl
def Ud:∃m,prog.types.size=m+1:=⟨_,Uc⟩
def uF:Go.WideMaps.ArrKey prog 24 5 16:=⟨underlying24,by kernel_rfl,by kernel_rfl,by kernel_rfl⟩
section
variable {H:Type} {enc:TypeId×Value->H} {P:Program}
def Ue{e:TypeId}{q:IntKind}(c:P.underlying e=some (.int q)){W d:World}{b f:Nat}{sp g:Nat->Bool}{hd h:Bool}(m:Nat)(a:List Value):
 DataW.trod enc P W b sp hd m e a=DataW.trod enc P d f g h m e a:=by
 cases m with
 |zero=>simp[DataW.trod]
 |succ n=>
  rw[DataW.trod_step,DataW.trod_step];unfold DataW.trodStep;rw[c];match a with
  |[]=>rfl
  |[v]=>cases v<;>rfl
  |v::_::_=>cases v<;>rfl
def mapM_mem{α β:Type}{f:α->Option β}:∀{l:List α}{c:List β},l.mapM f=some c->∀x∈l,∃y,f x=some y
 |[],_,_,x,b=>by cases b
 |a::l,c,h,x,b=>by
  rw[List.mapM_cons]at h;simp only[bind,qU,pure,qu]at h;obtain⟨y,d,g,e,rfl⟩:=h;obtain rfl|b:=iD.1 b
  exact⟨y,d⟩
  exact mapM_mem e x b
end
def vi:Value->Int
 |.int _ a=>a
 |_=>0
def Uf{H:Type}{enc:TypeId×Value->H}{W:World}{r:Reach}{b0 n:Nat}{sp:Nat->Bool}{p:Bool}{v:Value}{d:DataW H}{ps:List MemPlace}(u:Value.okWide prog W r b0 24 v)(hd:DataW.Trod enc prog W n sp p 24 v d ps):
 ∃key,cI key/\v=.agg (bY key)/\ps=[]/\∀(e:World)(f:Nat)(g:Nat->Bool)(j:Bool),DataW.Trod enc prog e f g j 24 v d []:=by
 obtain⟨b,rfl,l⟩:=Go.WideMaps.okWide_arr uF u;obtain⟨ls,rfl,rfl,-⟩:=Go.WideMaps.open_arr uF underlying5 Ud l hd;obtain⟨w,c⟩:=hd;cases w with
 |zero=>simp[DataW.trod]at c
 |succ m=>
  have hsame:∀(e:World)(f:Nat)(g:Nat->Bool)(j:Bool),DataW.Trod enc prog e f g j 24 (.agg b) (.agg (ls.map .lit)) []:=λe f g j=>⟨m+1,by
   rw[<-c,DataW.trod_step,DataW.trod_step];unfold DataW.trodStep;simp only[uF.hu]
   rw[show(λi=>DataW.trod enc prog e f g j m 5 (((Value.agg b).cells.toList.drop (i*prog.cellsOf 5)).take (prog.cellsOf 5)))=λi=>DataW.trod enc prog W n sp p m 5 (((Value.agg b).cells.toList.drop (i*prog.cellsOf 5)).take (prog.cellsOf 5))from funext λi=>Ue underlying5 _ _]⟩
  rw[DataW.trod_step]at c;unfold DataW.trodStep at c;simp only[uF.hu,Value.cells]at c;rw[aH (by rw[uF.size];simpa using l)]at c;simp only[Option.map_eq_some_iff]at c;obtain⟨K,z,e1⟩:=c;have A:∀i,i<16->∃a,b.toList[i]?=some (.int .u8 a)/\W8 a:=λi hi=>by
   obtain⟨y,h⟩:=mapM_mem z i (wW.2 hi);obtain⟨a,q,-,B⟩:=om underlying5 h;rw[uF.one,tx]at q;refine⟨a,?_,?_⟩
   have:((b.toList.drop i).take 1)[0]?=some (.int .u8 a):=by rw[q];rfl
   simpa using this;simp[Lit.wf,IntKind.min,IntKind.max,IntKind.bits,IntKind.signed]at B;unfold W8;omega
  have s:∀v∈b.toList,∃a,v=.int .u8 a/\W8 a:=λv k=>by
   obtain⟨i,hi,rfl⟩:=List.getElem_of_mem k;obtain⟨a,t,C⟩:=A i (by rw[uM,l]at hi;exact hi);rw[dB hi]at t;exact⟨a,aR t,C⟩
  refine⟨b.toList.map vi,⟨by rw[fF,uM,l],λx F=>?_⟩,?_,rfl,hsame⟩
  obtain⟨v,k,rfl⟩:=fu.1 F;obtain⟨a,rfl,h⟩:=s v k;exact h;unfold bY bv;rw[rZ];have:b.toList.map (Value.int .u8∘vi)=b.toList:=by
   rw[show b.toList=b.toList.map id by simp];rw[rZ];exact wN λv k=>by obtain⟨a,rfl,_⟩:=s v k;rfl
  rw[this]
def Ug:laidOutB prog=true:=by kernel_rfl
def Uh{W a:World}(g:W.grownBy a none):Below W.heap.size W a:=(rm _ W).grown g (aP _) (λk h=>by cases h)
def BD:Array Value:= #[.int .u8 0,.int .u8 0,.int .u8 0,.int .u8 0,.int .u8 0,.int .u8 0,.int .u8 0,.int .u8 0,.int .u8 0,.int .u8 0,.int .u8 0,.int .u8 0,.int .u8 0,.int .u8 0,.int .u8 0,.int .u8 0]
def Ui{H:Type}:DataW H:=.agg [.lit (.int .u8 0),.lit (.int .u8 0),.lit (.int .u8 0),.lit (.int .u8 0),.lit (.int .u8 0),.lit (.int .u8 0),.lit (.int .u8 0),.lit (.int .u8 0),.lit (.int .u8 0),.lit (.int .u8 0),.lit (.int .u8 0),.lit (.int .u8 0),.lit (.int .u8 0),.lit (.int .u8 0),.lit (.int .u8 0),.lit (.int .u8 0)]
def Qr(os:Os){H:Type}(enc:TypeId×Value->H):∃a,DataW.whole enc prog (({World.holding prog os ⟨#[],#[],[]⟩with heap:=(World.holding prog os ⟨#[],#[],[]⟩).heap.modify 0 λ|.cells _ t frozen=>.cells #[.iface 273 (.agg #[.pointer (some ⟨1,97,none⟩)])] t frozen|o=>o}:World).forCall (λ_ _=>0) ⟨#[],#[.slice none 0 0,.agg BD],[]⟩).memory f4.params.toList Rows.sidedSpec.vars false #[Value.slice none 0 0,.agg BD].toList 8=some ([.nil,Ui],[],a):=
 ⟨[],by kernel_rfl⟩
def Ut(os:Os)(z:os.Started)(H:Type)(enc:TypeId×Value->H)(F:Stop.Interp):
 ReturnsInHanded {} checked os 4 .any ((OpenSpec.ofChange Rows.sidedSpec).preRow enc prog f4 Rows.sidedRow.domain false Rows.sidedRow.laid)
  (((OpenSpec.ofChange Rows.sidedSpec).at F).post enc prog f4 false true false false):=by
 obtain⟨a9,b⟩:=Qr os enc;refine returnsInHanded_of_row (C:=checked) (s:=OpenSpec.ofChange Rows.sidedSpec) TK z (by kernel_rfl) func4
  (witness_row_at (enc:=enc) (C:=checked) false ({World.holding prog os ⟨#[],#[],[]⟩with heap:=(World.holding prog os ⟨#[],#[],[]⟩).heap.modify 0 λ|.cells _ t frozen=>.cells #[.iface 273 (.agg #[.pointer (some ⟨1,97,none⟩)])] t frozen|o=>o}:World) #[.slice none 0 0,.agg BD] rfl (by kernel_rfl) (by kernel_rfl) (by kernel_rfl)
    (OpenSpec.preRow_of_cond 8 b (by kernel_rfl) (λk c=>by cases c) (by kernel_rfl) (TP os _))) ?_
 intro W A args ds B bb K g _ _ i L _ _;have d:∀(j:Nat) t v,f4.params[j]?=some t->args[j]?=some v->Value.okWide prog W .any A t v:=K;have l:=g;obtain⟨p,q,M,P,rfl,bj,br⟩:=g;have m:DataW.TrodAll enc prog W 0 (λ_=>true) true f4.params.toList args.toList ds p:=M;have R:DataW.TrodVars enc prog W (λ_=>true) [] B q:=P;rw[params4]at m d;obtain⟨r,bt,d0,bw,p0,q0,bz,rfl,rfl,h0,S⟩:=trodAll_cons m;obtain⟨u,bA,d1,bM,p1,q1,rfl,rfl,rfl,T,V⟩:=trodAll_cons S;obtain⟨rfl,rfl,rfl⟩:=trodAll_nil V;obtain rfl:args= #[r,u]:=by cases args;simp_all
 obtain⟨rfl,rfl⟩:=trodVars_none R;have c:∀a∈d0.weights checked.prog 22,a<=reachBytes:=λa ha=>of_decide_eq_true (List.all_eq_true.1 i a (by rw[params4];simp[DataW.weightsEach,ha]))
 clear i;have f:=d 0 _ r rfl rfl;obtain⟨a,n,ak,rfl⟩:=okWide_slice underlying22 f;obtain⟨key,al,rfl,rfl,sk⟩:=Uf (d 1 _ u rfl rfl) T;have ax:∀y,a=some y->y.spot=none:=λy hy=>by
  subst hy;simp only[Value.okWide,Cell.okWide,Cell.ok]at f;exact f.2.2.2.1
 obtain⟨b5,hf⟩:=id h0;obtain⟨ss,a3⟩:=Ub ax (by simpa [Value.cells]using hf) (by exact c);have a4:∀x∈p0,x.block<W.heap.size:=λx b=>by simpa using l.lt x (by simp[b])
 refine(sided_any W (TO L) a n ak ss a3 key al).mono λe W' ⟨he,w⟩=>?_
 subst he;refine⟨_,rfl,_,_,_,[],p0,[],l,?_,?_,?_,TQ w _,λh=>by cases h⟩
 exact trodAll_cons_mk (shut_bool underlying4 true) trodAll_mk0;have:=trodAll_cons_mk (p:=p0) (Below.trod Ug (by kernel_rfl) (of_decide_eq_true (by kernel_rfl)) h0 (Uh w) a4) (trodAll_cons_mk (p:=[]) (sk _ _ _ _) trodAll_mk0);simp only[qY]at this;exact this;rfl
def Uu:prog.inPlace 4=Rows.sidedRow.inPlace:=by kernel_rfl
def Uv:prog.unfollowed 4=true:=by kernel_rfl
def Uw:prog.recurses 4=true:=by kernel_rfl
def Ux:prog.varsNamed 4=Rows.sidedRow.named:=by kernel_rfl
def Uy:joinedFacts prog 4 f4 (OpenSpec.ofChange Rows.sidedSpec).bare Rows.sidedRow=true:=by
 unfold joinedFacts;rw[Uu,Uv,Uw,Ux];kernel_rfl
def Uz:Rows.SidedSaid:=
 OpenClaim.holds_of_cond 4 f4 rfl rfl rfl rfl rfl rfl rfl ⟨rfl,rfl,rfl,rfl,rfl⟩ rfl rfl rfl rfl rfl (by kernel_rfl) func4 Uy
  (of_decide_eq_true (by kernel_rfl)) (by unfold Func.isWrapper;rw[aE (of_decide_eq_false (by kernel_rfl))];exact⟨rfl,rfl⟩)
  (λos a H enc _ F=>by rw[OpenClaim.pre_eq_preRow];exact Ut os a H enc F)
def UA(f:FuncId)(a:Func)(c:pinned.checked.prog.funcNamed "sealstream/sealstreamlaw.Sided" =some f)(d:pinned.checked.prog.funcs[f]?=some a):
 true=pinned.checked.prog.looks []/\∀(j:Nat) t,a.params[j]?=some t->pinned.checked.prog.wantsStandIn t=false:=by
 obtain rfl:f=4:=aR ((show prog.funcNamed "sealstream/sealstreamlaw.Sided" =some 4 by kernel_rfl).symm.trans c)|>.symm;obtain rfl:a=f4:=(aR (func4.symm.trans d)).symm;refine⟨by kernel_rfl,λj t b=>?_⟩
 rw[params4]at b;have h:=Array.mem_of_getElem? b;simp only[List.mem_toArray,iD,uN,or_false]at h;obtain rfl|rfl:=h
 exact(show prog.wantsStandIn 22=false by kernel_rfl)
 exact(show prog.wantsStandIn 24=false by kernel_rfl)
theorem sided_holds:Rows.SidedCardSaid:=
 ⟨Claim7.tied_new_at .later [.handle] true (Claim7.new_of_sixth Uz Rows.sidedCard.stood.harness true rfl ⟨rfl,rfl⟩ (by kernel_rfl) rfl UA) (by kernel_rfl),λ_ h=>(by cases h),sided_row_tie,λh=>(by cases h),by kernel_rfl⟩
