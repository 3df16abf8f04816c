import Derived.Laws.CopyRow
import Derived.Laws.EntriesVeiled
import Derived.Lib.AppendStr
import Derived.Test.YtjnmokmchdfchaaGreatDoorZ0
set_option maxRecDepth 1000000
set_option maxHeartbeats 8000000
set_option linter.all false
namespace Go.Proofs.YtjnmokmchdfchaaGreatDoor
open Go.RowKit Tryz
attribute[local go_sem↓]Go.wp_at_zero Go.wp_at_succ
variable{I:Act}{A:Addr}{F:Exit->Act->World->Prop}{G:Fr}{p q:Int}{K L M:List Int}{X:List Rg}{b i j k l m n o:Nat}{H:Oper}{a:Option Addr}{N:Option Nat}{T:TypeId}{x y z:Value}{V W w:World}
def jT(f:Fr)(a:Value):List Value:=[.int .i64 f.kind,.int .i64 f.stream,.int .u64 f.offset,.int .u64 f.code,.bool f.fin,.string f.data,a]
def bP(f:Fr)(a:Value):Array Value:= #[.int .i64 f.kind,.int .i64 f.stream,.int .u64 f.offset,.int .u64 f.code,.bool f.fin,.string f.data,a]
def dr(w:World)(f:Fr)(a:Value):Prop:=f.ok/\f.data.size<=9223372036854775807/\∃ra cap,a=.slice ra f.ranges.length cap/\bu w ra f.ranges.length cap f.ranges
theorem cH{a c d e:Value}(h:w.heap[b]?=some (.cells #[x,y,z,a,c,d,e] T (0,0))):w.cell? ⟨b,0,none⟩=some x/\w.cell? ⟨b,1,none⟩=some y/\w.cell? ⟨b,2,none⟩=some z/\w.cell? ⟨b,3,none⟩=some a/\w.cell? ⟨b,4,none⟩=some c/\w.cell? ⟨b,5,none⟩=some d/\w.cell? ⟨b,6,none⟩=some e:=by
 simp[World.cell?,h]
theorem dr.ao(h:dr w G x)(g:w.grownBy W none):dr W G x:=by
 obtain⟨a,h0,ra,cap,b,c⟩:=h;exact⟨a,h0,ra,cap,b,c.ao g⟩
theorem Ao(f:Fr)(l:Value)(w:World)(h:dr w f l):
 Calls prog 192 #[.agg (bP f l)] w λe n=>dJ (oX f/\qh f) e/\w.grownBy n none:=by
 obtain⟨⟨⟨t,u⟩,⟨s0,s1⟩,⟨v,x⟩,⟨c0,c1⟩,y⟩,z,ra,cap,rfl,p⟩:=h;obtain⟨k,s,o,c,fin,d,rg⟩:=f;obtain⟨R,a⟩:∃R:Prop,R=((o<=4611686018427387903/\c<=4611686018427387903/\0<=s/\s<4)/\(k=3->iI rg)/\(k=5->(d.size:Int)<=4611686018427387903-o)):=⟨_,rfl⟩
 have m:(oX ⟨k,s,o,c,fin,d,rg⟩/\qh ⟨k,s,o,c,fin,d,rg⟩)=R:=a.symm;rw[m];clear m;simp only[bP]at *;replace a:=J a;by_cases A:4611686018427387903<o
 ·go_enter func192,ntmps192;go_wp2_with fail;go_ret;exact⟨lN (λhp=>by rw[Z a]at hp;have:=hp.1.1;omega),aH _ _ _⟩
 by_cases B:4611686018427387903<c
 ·go_enter func192,ntmps192;go_wp2_with fail;go_ret;exact⟨lN (λhp=>by rw[Z a]at hp;have:=hp.1.2.1;omega),aH _ _ _⟩
 by_cases C:s<0
 ·go_enter func192,ntmps192;go_wp2_with fail;go_ret;exact⟨lN (λhp=>by rw[Z a]at hp;have:=hp.1.2.2.1;omega),aH _ _ _⟩
 by_cases D:4<=s
 ·go_enter func192,ntmps192;go_wp2_with fail;go_ret;exact⟨lN (λhp=>by rw[Z a]at hp;have:=hp.1.2.2.2;omega),aH _ _ _⟩
 have g:o<=4611686018427387903/\c<=4611686018427387903/\0<=s/\s<4:=by omega
 replace g:=J g;by_cases k3:k=3
 ·subst k3;have q:=J (λob=>p.ao (aH w ob none));go_enter func192,ntmps192;go_wp2_with (go_at_call 234;refine(Fy _ _ _ _ _ (Z q _)).mono ?_;rintro e E⟨⟨b,rfl,i⟩,r⟩;replace i:=J i);go_ret;refine⟨⟨b,rfl,(Z i).trans (by have j:=Z g;rw[Z a];simp[j])⟩,aq (aH _ _ _) r⟩
 by_cases k5:k=5
 ·subst k5;have F:IntKind.u64.wrap (4611686018427387903-o)=4611686018427387903-o:=by rw[fh];omega
  have G:IntKind.u64.wrap (d.size:Int)=(d.size:Int):=by rw[fh];omega
  go_enter func192,ntmps192;go_wp2_with fail;go_ret;refine⟨nI (by have j:=Z g;rw[Z a];simp[j]),aH _ _ _⟩
 go_enter func192,ntmps192;go_wp2_with fail;go_ret;exact⟨rJ (by rw[Z a];exact⟨Z g,λh=>absurd h k3,λh=>absurd h k5⟩),aH _ _ _⟩
structure It where
 h:Hd
 high:Int
 last:Int
 code:Int
 ended:Bool
 given:Bool
 over:Bool
def rK(w:World)(sb a:Nat)(s:It):Prop:=
 w.cell? ⟨sb,a+3,none⟩=some (.int .u64 s.high)/\w.cell? ⟨sb,a+4,none⟩=some (.int .u64 s.last)/\w.cell? ⟨sb,a+5,none⟩=some (.int .u64 s.code)/\w.cell? ⟨sb,a+6,none⟩=some (.bool s.ended)/\w.cell? ⟨sb,a+7,none⟩=some (.bool s.given)/\w.cell? ⟨sb,a+8,none⟩=some (.bool s.over)
theorem rK.ao{s:It}(H:rK w n k s)(g:w.grownBy W none):rK W n k s:=
 ⟨g.cell H.1 (by simp),g.cell H.2.1 (by simp),g.cell H.2.2.1 (by simp),g.cell H.2.2.2.1 (by simp),g.cell H.2.2.2.2.1 (by simp),g.cell H.2.2.2.2.2 (by simp)⟩
def aT(f:Fr):Int:=f.offset+f.data.size
def It.gp(s:It)(e:Int):Bool:=(s.ended&&(e !=s.last))||decide (e<s.high)
def It.busy(s:It)(f:Fr)(ag:Int):Bool:= !s.given&&decide (s.h.fr+ag<aT f)
theorem xC(w:World)(f:Fr)(a:Value)(h0:0<=f.offset)(hs:aT f<=9223372036854775807):Calls prog 247 #[.agg (bP f a)] w λe b=>e=.returned (.int .u64 (aT f))/\w.grownBy b none:=by
 obtain⟨kind,stream,offset,code,fin,data,ranges⟩:=f;unfold aT bP at *;simp only at *;have c:IntKind.u64.wrap (offset+(data.size:Int))=offset+(data.size:Int):=by rw[fh];omega
 have d:IntKind.u64.wrap (data.size:Int)=(data.size:Int):=by rw[fh];omega
 go_enter func247,ntmps247;go_wp2_with fail;go_ret;exact⟨rfl,by repeat(first|exact aB _ _|apply di|apply aW|apply ba)⟩
theorem Ap(w:World)(sb a:Nat)(s:It)(H:rK w sb a s)(e:Int):Calls prog 257 #[.pointer (some ⟨sb,a,none⟩),.int .u64 e] w λr b=>r=.returned (.bool (s.gp e))/\b=w:=by
 obtain⟨c3,c4,c5,c6,c7,c8⟩:=H;unfold It.gp;generalize s.high=hi at *;generalize s.last=la at *;generalize s.ended=en at *;cases en<;>by_cases hd:e=la<;>by_cases c:e<hi;all_goals
  go_enter func257,ntmps257
  go_wp2_with fail
  all_goals
   first
    |(go_ret;exact⟨by simp_all[bne],rfl⟩)
    |(exfalso;omega)
theorem kc(h:w.cell? A=some x):∀W,w.grownBy W none->W.cell? A=some x:=λ_ g=>g.cell h (by simp)
theorem FZ(w:World)(sb g:Nat)(s:It)(h0:w.cell? ⟨sb,g,none⟩=some (.int .u64 s.h.fr))(H:rK w sb g s)(A:0<=s.h.fr/\s.h.fr<=4611686018427387903)(f:Fr)(c:Value)(x:0<=f.offset)(hs:aT f<=9223372036854775807)(ag:Int)(B:0<=ag/\ag<=1000000):
 Calls prog 214 #[.pointer (some ⟨sb,g,none⟩),.agg (bP f c),.int .i64 ag] w λr i=>r=.returned (.bool (s.busy f ag))/\w.grownBy i none:=by
 obtain⟨-,-,-,-,c7,-⟩:=H;unfold It.busy;have y:=J (λW=>xC W f c x hs);generalize s.h.fr=fr at *;generalize s.given=gv at *;generalize aT f=en at *;obtain⟨kind,stream,offset,code,fin,data,ranges⟩:=f;unfold bP at *;simp only at *;obtain⟨b,a⟩:=exq (w.alloc (.cells #[.int .i64 kind,.int .i64 stream,.int .u64 offset,.int .u64 code,.bool fin,.string data,c] 158));have d:w.grownBy b none:=by rw[a];exact aH _ _ _
 have j:b.heap[w.heap.size]?=some (.cells #[.int .i64 kind,.int .i64 stream,.int .u64 offset,.int .u64 code,.bool fin,.string data,c] 158 (0,0)):=by rw[a];exact aM _ _
 obtain⟨l,m,n,p,q,t,u⟩:=cH j;replace l:=kc l;replace m:=kc m;replace n:=kc n;replace p:=kc p;replace q:=kc q;replace t:=kc t;replace u:=kc u;have d0:=kc (d.cell h0 (by simp));have d7:=kc (d.cell c7 (by simp));clear h0 c7;have C:IntKind.u64.wrap ag=ag:=by rw[fh];omega
 have D:IntKind.u64.wrap (fr+ag)=fr+ag:=by rw[fh];omega
 have k:b.grownBy b.drew none:=aW (aB _ _);replace j:=J j;cases gv
 ·go_enter func214,ntmps214;go_wp2_with fail;rw[<-a];clear a;go_region_held3 (λi=>b.grownBy i none)
   (first|with_reducible exact v|with_reducible exact k)
   (first|(go_at_call 247;refine(Z y _).mono ?_;rintro e E⟨rfl,z⟩;have v:=aq k z))
  go_wp2_with fail;go_ret;exact⟨rfl,aq d v⟩
 go_enter func214,ntmps214;go_wp2_with fail;rw[<-a];clear a;go_big_region;go_wp2_with fail;go_ret;exact⟨rfl,aq d k⟩
theorem F5(s:ByteArray)(n:Nat):((s.extract 0 n).data.map λb=>Value.int .u8 (b.toNat:Int))=(bv ((aG s).take n)).toArray:=by
 apply Array.ext';simp[bv,aG,wY,Function.comp_def]
theorem F6(s:ByteArray)(k:Nat):aG (s.extract k s.size)=(aG s).drop k:=by
 unfold aG;have hs:s.data.toList.length=s.size:=by rw[p7];rfl
 rw[wY,Array.toList_extract,List.extract_eq_take_drop,fJ (by rw[dF];omega),List.map_drop]
theorem F7{α:Type}(a b m:List α)(off n:Nat)(h:a.take n=b)(d:off+m.length<=n)(e:off<=a.length):(a.take off++(m++a.drop (off+m.length))).take n=splice b off m:=by
 subst h;unfold splice;have e1:(a.take off).length=off:=by rw[ct];omega
 have e2:(a.take off).take n=a.take off:=fJ (by rw[e1];omega);have c:m.take (n-off)=m:=fJ (by omega);rw[List.take_take,Nat.min_eq_left (by omega),List.drop_take,List.take_append,e2,e1,List.take_append,c,Nat.sub_sub]
theorem F8(ty:TypeId)(i g off n c a m:Nat)(l:List Int)(p:bm w i (.slice (some ⟨g,0,none⟩) n c) l)(s:ByteArray)(q:off+((aG s).take a).length<=n):
 ∃d,(Builtin.copy_ #[112,9] ty #[.slice (some ⟨g,off,none⟩) a m,.string s]).run prog w=.ok (goInt ((aG s).take a).length) d/\bm d i (.slice (some ⟨g,0,none⟩) n c) (splice l off ((aG s).take a))/\w.grownBy d (some g):=by
 obtain⟨j,G,⟨h0,-⟩|⟨H,cap,e,r,t,k,v,z,I,A⟩⟩:=p;cases h0;cases r;have B:Nat.min s.size a=((aG s).take a).length:=by rw[ct,fu,Nat.min_comm]
 have C:(aG s).take (Nat.min s.size a)=(aG s).take a:=by
  by_cases h:s.size<=a;rw[show Nat.min s.size a=s.size from Nat.min_eq_left h,fJ (by rw[fu];exact aP _),fJ (by rw[fu];exact h)];rw[show Nat.min s.size a=a from Nat.min_eq_right (by omega)]
 have D:=run_storeCells_at prog g off 5 (bv ((aG s).take a)) 0 e w k (by rw[fC];omega) (by
  intro u E;obtain⟨y,_,rfl⟩:=eQ.1 E;rfl)
 have F:∀w,(sizeOf 5).run prog w=.ok 1 w:=λW=>by kernel_rfl
 have f:(splice l off ((aG s).take a)).length=l.length:=length_splice _ _ _ (by omega);refine⟨w.setRow g (e.toList.take (off+0)++bv ((aG s).take a)++e.toList.drop (off+0+(bv ((aG s).take a)).length)).toArray,?_,⟨?_,?_⟩,uO _ _ _⟩
 simp only[Builtin.copy_,uK underlying112,Builtin.lenOf,Builtin.firstCells,iU,mi,iT,F,F5]
 have e1:bv ((aG s).take (min a (aG s).length))=bv ((aG s).take a):=by rw[<-C,fu,Nat.min_comm]
 simp[Builtin.lenOf,B,e1,D];intro x b;unfold splice at b;obtain b|b:=bQ.1 b
 exact j x (iS b);obtain b|b:=bQ.1 b
 exact qg s x (iS b);exact j x (iG b);refine⟨by rw[fC,Nat.mul_one],.inr ⟨g,c,_,by rw[f],t,setRow_heap w g _ _ _ _ k,by rw[f];exact v,z,?_,?_⟩⟩
 simp only[sT,bH,ct,dF,p7,fC]
 rw[ct]at q;omega;rw[f,zQ,fg];exact F7 _ _ _ _ _ A (by rw[fC];omega) (by rw[p7];omega)
theorem Ga{f:Array Oper}{K:Act->World->Prop}{E:Prop}(d s:Operand)
 (ho:H.op=.call {callee:=.builtin .copy,args:= #[d,s],argTypes:= #[112,9]}) (j:H.guard=none)
 (e g off n c a i:Nat) (hd:I.eval d=.slice (some ⟨g,off,none⟩) a i) (str:ByteArray) (hs:I.eval s=.string str)
 (l:List Int) (k:bm w e (.slice (some ⟨g,0,none⟩) n c) l) (m:off+((aG str).take a).length<=n)
 (h:∀b,bm b e (.slice (some ⟨g,0,none⟩) n c) (splice l off ((aG str).take a))->w.grownBy b (some g)->K (I.put H.dst (goInt ((aG str).take a).length)) b):
 if Region.wanted H (yielded f I.tmps)=true then Oper.wp prog H I w K F else E:=by
 have p:Region.wanted H (yielded f I.tmps)=true:=by simp[Region.wanted,j]
 rw[az p];obtain⟨b,q,r,t⟩:=F8 (w:=w) H.type e g off n c a i l k str m;unfold Oper.wp execOp;simp only[ho,resolve,invoke,builtin,iU,mi,iT,nF,ki,mP,hd,hs,q]
 exact h b r t
theorem bu.df(h:bu w a n k X)(e:X≠[]->∀x,a=some x->W.heap[x.block]?=w.heap[x.block]?):bu W a n k X:=by
 obtain⟨f,g,i,l,c⟩:=h;refine⟨f,g,i,l,?_⟩
 obtain c|⟨b,o,rfl,c⟩:=c
 exact .inl c;refine .inr ⟨b,o,rfl,?_⟩;by_cases hl:X=[]
 subst hl;intro j v d;simp[cz]at d;intro j v d;exact(lH (w:=w) (a:=⟨b,o+j,none⟩) (e hl ⟨b,o,none⟩ rfl)).trans (c j v d)
theorem bu.lt(h:bu w (some A) n k X)(hl:X≠[]):A.block<w.heap.size:=by
 obtain⟨c,d,f,g,a|⟨b,o,e,a⟩⟩:=h;have:=oj.2 hl;omega;cases e;exact ep w _ (a 0 _ (by have:=(zZ X 0 (oj.2 hl)).1;simpa using this))
def cD(n:Int):Int:=if n<64 then 1 else if n<16384 then 2 else if n<1073741824 then 4 else 8
theorem GR(n:Int):((aR n).length:Int)=cD n:=by
 unfold aR cD;split;simp;split;simp;split<;>simp
theorem tB(n:Int):1<=cD n/\cD n<=8:=by
 unfold cD;split;omega;split;omega;split<;>omega
theorem GS(n:Int):pw n=0/\cD n=1\/pw n=1/\cD n=2\/pw n=2/\cD n=4\/pw n=3/\cD n=8:=by
 unfold pw cD;split;simp;split;simp;split<;>simp
theorem vu(n:Int)(w:World):Calls prog 299 #[.int .u64 n] w λe d=>e=.returned (.int .i64 (cD n))/\d=w:=by
 have c:=J (λW=>zX n W);obtain⟨a,b⟩|⟨a,b⟩|⟨a,b⟩|⟨a,b⟩:=GS n
 all_goals
  rw[a]at c
  rw[b]
  clear a b
  go_enter func299,ntmps299
  go_wp2_with (first|(go_at_call 295;refine(Z c _).mono ?_;rintro e f⟨rfl,rfl⟩))
  go_ret
  exact⟨rfl,rfl⟩
theorem GU(a c:Int)(w:World):Calls prog 283 #[.int .u64 a,.int .u64 c] w λe b=>e=.returned (.int .i64 (2+cD c+cD a))/\b=w:=by
 have d:=J (λW=>vu a W);have f:=J (λW=>vu c W);have b1:=tB a;have b2:=tB c;generalize cD a=x at *;generalize cD c=y at *;have e1:IntKind.i64.wrap (2+y)=2+y:=by simp[IntKind.wrap,IntKind.bits,IntKind.signed];omega
 have e2:IntKind.i64.wrap (2+y+x)=2+y+x:=by simp[IntKind.wrap,IntKind.bits,IntKind.signed];omega
 go_enter func283,ntmps283;go_wp2_with fail;refine(Z f _).mono ?_;rintro e g⟨rfl,rfl⟩;go_wp2_with fail;refine(Z d _).mono ?_;rintro e h⟨rfl,rfl⟩;go_wp2_with fail;go_ret;exact⟨rfl,rfl⟩
def xP(r m:Int):Prop:=m<=r-1/\(r-1<=0->m=r-1)/\(0<=r-1->0<=m)/\(0<m->cD m+m<=r)/\∀n,m<n->n<=r-1->r<cD n+n
theorem GV(off a:Int)(w:World)(D: -1000000000000<=a/\a<=1000000000000):Calls prog 284 #[.int .u64 off,.int .i64 a] w λe l=>∃m,e=.returned (.int .i64 m)/\xP (a-(2+cD off)) m/\l=w:=by
 have p:=J (λn W=>vu n W);have b1:=tB off;generalize d:cD off=x at *;replace d:=J d;obtain⟨r,f⟩:=exq (a-(2+x));rw[<-f];have e1:IntKind.i64.wrap (2+x)=2+x:=by simp[IntKind.wrap,IntKind.bits,IntKind.signed];omega
 have e2:IntKind.i64.wrap (a-(2+x))=r:=by simp[IntKind.wrap,IntKind.bits,IntKind.signed];omega
 have E:IntKind.i64.wrap (r-1)=r-1:=by simp[IntKind.wrap,IntKind.bits,IntKind.signed];omega
 have F: -1000000000100<=r/\r<=1000000000000:=by omega
 replace f:=J f;go_enter func284,ntmps284;go_wp2_with fail;refine(Z p _ _).mono ?_;rintro e q⟨rfl,rfl⟩;rw[Z d];go_wp2_with fail;go_loopw [5] (λi wr=>∃N:Int,i=.int .i64 N/\N<=r-1/\(r-1<=0->N=r-1)/\(0<=r-1->0<=N)/\(∀n,N<n->n<=r-1->r<cD n+n)/\wr=q) (λi _=>(intOf i).toNat);case atStart=>exact⟨r-1,rfl,by omega,λ_=>rfl,λh=>h,λn s k=>by omega,rfl⟩
 case round=>
  obtain⟨N,rfl,s,k,t,b,rfl⟩:=hrel;replace b:=J b;by_cases h0:0<N
  ·have u:decide (0<N)=true:=bK h0;have u1:IntKind.u64.wrap N=N:=by rw[fh];omega
   have v:=tB N;have g:=J (λW=>vu N W);obtain⟨y,c⟩:=exq (cD N);rw[<-c]at g v;replace c:=J c;have u2:IntKind.i64.wrap (y+N)=y+N:=by simp[IntKind.wrap,IntKind.bits,IntKind.signed];omega
   have u3:IntKind.i64.wrap (N-1)=N-1:=by simp[IntKind.wrap,IntKind.bits,IntKind.signed];omega
   by_cases j:r<y+N
   ·have z:decide (r<y+N)=true:=bK j;go_wp2_with (first|(go_at_call 299;refine(Z g _).mono ?_;rintro e A⟨rfl,rfl⟩));go_roundw;case rel=>exact⟨N-1,rfl,by omega,λh=>by omega,λh=>by omega,λn G B=>by
     by_cases C:n=N;subst C;rw[<-Z c];exact j
     ·exact Z b n (by omega) B,trivial⟩
    case measure=>simp only[intOf];omega
   have z:decide (r<y+N)=false:=bI j;go_wp2_with (first|(go_at_call 299;refine(Z g _).mono ?_;rintro e A⟨rfl,rfl⟩));go_ret;exact⟨N,rfl,⟨by omega,λh=>by omega,λh=>by omega,λ_=>by rw[<-Z c];omega,Z b⟩,rfl⟩
  have u:decide (0<N)=false:=bI h0;go_wp2_with fail;go_ret;exact⟨N,rfl,⟨by omega,k,t,λh=>by omega,Z b⟩,rfl⟩
theorem xQ(a:Option Addr)(b o n cap l:Nat)(la lb:Array Value)(w:World)(p:Nat->Prop)(y z A B:Nat->Value)(Inv:Nat->World->Prop)(C:0<n->a=some ⟨b,o,none⟩)(D:n<=cap/\cap<=maxLen)
 (M:∀args w,(callFunc l args).run prog w=.ok (.enter l args) w) (h0:Inv 0 w)
 (r:∀(W:World)(h:Nat),Inv h W->h<n->W.cell? ⟨b,o+h*4,none⟩=some (y h)/\W.cell? ⟨b,o+h*4+1,none⟩=some (z h)/\W.cell? ⟨b,o+h*4+2,none⟩=some (A h)/\W.cell? ⟨b,o+h*4+3,none⟩=some (B h))
 (s:∀(W:World)(h:Nat),Inv h W->h<n->Calls prog l (la++ #[.agg #[y h,z h,A h,B h]]++lb) W (λe E=>dJ (p h) e/\Inv (h+1) E)):
 Calls prog 235 #[.slice a n cap,.func (.func l) la lb] w λe c=>(∃k:Nat,k<n/\e=.returned (.int .i64 (k:Int))/\p k/\(∀i,i<k->¬p i)/\Inv (k+1) c)\/(e=.returned (.int .i64 (-1))/\(∀i,i<n->¬p i)/\Inv n c):=by
 obtain⟨R,d⟩:∃R:Ending->World->Prop,R=λe c=>(∃k:Nat,k<n/\e=.returned (.int .i64 (k:Int))/\p k/\(∀i,i<k->¬p i)/\Inv (k+1) c)\/(e=.returned (.int .i64 (-1))/\(∀i,i<n->¬p i)/\Inv n c):=⟨_,rfl⟩
 rw[<-d];obtain⟨N,F⟩:=D;unfold maxLen at F;replace d:=J d;replace s:=J s;replace r:=J r;replace h0:=J h0;go_enter func235,ntmps235;go_wp2_with fail;go_loopw [8] (λu wr=>∃j:Nat,j<=n/\u=.int .i64 (j:Int)/\(∀i,i<j->¬p i)/\Inv j wr) (λu _=>n-(intOf u).toNat);case atStart=>exact⟨0,by omega,rfl,λi hi=>by omega,Z h0⟩
 case round=>
  obtain⟨j,O,rfl,f,g⟩:=hrel;replace f:=J f;by_cases v:j<n
  ·have d1:decide ((j:Int)<(n:Int))=true:=bK (by omega);obtain⟨P,Q,S,T⟩:=Z r wr j g v;have hF:=J (Z s wr j g v);have G:=C (by omega);subst G;have U:(j:Int)<(n:Int):=by omega
   replace g:=J g;clear C;go_wp2_with fail;refine(Z hF).mono ?_;rintro e H⟨⟨t,rfl,m⟩,q⟩;replace q:=J q;cases t
   ·have I:Hid (¬p j):=J (λhp=>by cases m.2 hp);clear m;go_wp2_with fail;go_roundw;case rel=>
     refine⟨j+1,by omega,by simp,λi K=>?_,Z q⟩
     obtain h|rfl:=pX.1 K
     exact Z f i h;exact Z I
    case measure=>simp[intOf];omega
   have L:Hid (p j):=J (m.1 rfl);clear m;have x:Hid (R (.returned (.int .i64 (j:Int))) H):=J (by rw[Z d];exact .inl ⟨j,v,rfl,Z L,Z f,Z q⟩);go_wp2_with fail;exact Z x
  have d1:decide ((j:Int)<(n:Int))=false:=bI (by omega);obtain rfl:j=n:=by omega
  have x:Hid (R (.returned (.int .i64 (-1))) wr):=J (by rw[Z d];exact .inr ⟨rfl,Z f,g⟩);go_wp2_with fail;exact Z x
theorem AF(a:Option Addr)(b o n cap c:Nat)(la lb:Array Value)(w:World)(p:Nat->Prop)(j l m q:Nat->Value)(v:0<n->a=some ⟨b,o,none⟩)(x:n<=cap/\cap<=maxLen)
 (y:∀args w,(callFunc c args).run prog w=.ok (.enter c args) w)
 (t:∀(W:World)(h:Nat),w.grownBy W none->h<n->W.cell? ⟨b,o+h*4,none⟩=some (j h)/\W.cell? ⟨b,o+h*4+1,none⟩=some (l h)/\W.cell? ⟨b,o+h*4+2,none⟩=some (m h)/\W.cell? ⟨b,o+h*4+3,none⟩=some (q h))
 (u:∀(W:World)(h:Nat),w.grownBy W none->h<n->Calls prog c (la++ #[.agg #[j h,l h,m h,q h]]++lb) W (λe z=>dJ (p h) e/\W.grownBy z none)):
 Calls prog 197 #[.slice a n cap,.func (.func c) la lb] w λe A=>dJ (∃i,i<n/\p i) e/\w.grownBy A none:=by
 have B:=J (xQ a b o n cap c la lb w p j l m q (λ_ W=>w.grownBy W none) v x y (aB _ _) t (λW h g C=>(u W h g C).mono (λ_ _ f=>⟨f.1,aq g f.2⟩)));obtain⟨R,d⟩:∃R:Prop,R=(∃i,i<n/\p i):=⟨_,rfl⟩
 rw[<-d];replace d:=J d;clear u t;go_enter func197,ntmps197;go_wp2_with fail;refine(Z B).mono ?_;rintro e F(⟨k,D,rfl,hp,-,r⟩|⟨rfl,hp,r⟩)
 ·have hd:decide (0<=(k:Int))=true:=bK (by omega);have s:Hid (dJ R (.returned (.bool true))):=J (rJ (by rw[Z d];exact⟨k,D,hp⟩));go_wp2_with fail;go_ret;exact⟨Z s,r⟩
 have s:Hid (dJ R (.returned (.bool false))):=J (lN (by rw[Z d];rintro⟨i,E,f⟩;exact hp i E f));replace hp:=J hp;go_wp2_with fail;go_ret;exact⟨Z s,r⟩
theorem GY(a:Option Addr)(b o n cap l:Nat)(la lb:Array Value)(w:World)(p:Nat->Prop)(y z A B:Nat->Value)(Inv:Nat->World->Prop)(C:0<n->a=some ⟨b,o,none⟩)(D:n<=cap/\cap<=maxLen)
 (M:∀args w,(callFunc l args).run prog w=.ok (.enter l args) w) (h0:Inv 0 w)
 (r:∀(W:World)(h:Nat),Inv h W->h<n->W.cell? ⟨b,o+h*4,none⟩=some (y h)/\W.cell? ⟨b,o+h*4+1,none⟩=some (z h)/\W.cell? ⟨b,o+h*4+2,none⟩=some (A h)/\W.cell? ⟨b,o+h*4+3,none⟩=some (B h))
 (s:∀(W:World)(h:Nat),Inv h W->h<n->Calls prog l (la++ #[.agg #[y h,z h,A h,B h]]++lb) W (λe E=>dJ (p h) e/\Inv (h+1) E)):
 Calls prog 303 #[.slice a n cap,.func (.func l) la lb] w λe c=>(∃k:Nat,k<n/\e=.returned (.int .i64 (k:Int))/\p k/\(∀i,i<k->¬p i)/\Inv (k+1) c)\/(e=.returned (.int .i64 (-1))/\(∀i,i<n->¬p i)/\Inv n c):=by
 obtain⟨R,d⟩:∃R:Ending->World->Prop,R=λe c=>(∃k:Nat,k<n/\e=.returned (.int .i64 (k:Int))/\p k/\(∀i,i<k->¬p i)/\Inv (k+1) c)\/(e=.returned (.int .i64 (-1))/\(∀i,i<n->¬p i)/\Inv n c):=⟨_,rfl⟩
 rw[<-d];obtain⟨N,F⟩:=D;unfold maxLen at F;replace d:=J d;replace s:=J s;replace r:=J r;replace h0:=J h0;go_enter func303,ntmps303;go_wp2_with fail;go_loopw [8] (λu wr=>∃j:Nat,j<=n/\u=.int .i64 (j:Int)/\(∀i,i<j->¬p i)/\Inv j wr) (λu _=>n-(intOf u).toNat);case atStart=>exact⟨0,by omega,rfl,λi hi=>by omega,Z h0⟩
 case round=>
  obtain⟨j,O,rfl,f,g⟩:=hrel;replace f:=J f;by_cases v:j<n
  ·have d1:decide ((j:Int)<(n:Int))=true:=bK (by omega);obtain⟨P,Q,S,T⟩:=Z r wr j g v;have hF:=J (Z s wr j g v);have G:=C (by omega);subst G;have U:(j:Int)<(n:Int):=by omega
   replace g:=J g;clear C;go_wp2_with fail;refine(Z hF).mono ?_;rintro e H⟨⟨t,rfl,m⟩,q⟩;replace q:=J q;cases t
   ·have I:Hid (¬p j):=J (λhp=>by cases m.2 hp);clear m;go_wp2_with fail;go_roundw;case rel=>
     refine⟨j+1,by omega,by simp,λi K=>?_,Z q⟩
     obtain h|rfl:=pX.1 K
     exact Z f i h;exact Z I
    case measure=>simp[intOf];omega
   have L:Hid (p j):=J (m.1 rfl);clear m;have x:Hid (R (.returned (.int .i64 (j:Int))) H):=J (by rw[Z d];exact .inl ⟨j,v,rfl,Z L,Z f,Z q⟩);go_wp2_with fail;exact Z x
  have d1:decide ((j:Int)<(n:Int))=false:=bI (by omega);obtain rfl:j=n:=by omega
  have x:Hid (R (.returned (.int .i64 (-1))) wr):=J (by rw[Z d];exact .inr ⟨rfl,Z f,g⟩);go_wp2_with fail;exact Z x
theorem GZ(a:Option Addr)(b o n cap c:Nat)(la lb:Array Value)(w:World)(p:Nat->Prop)(j l m q:Nat->Value)(v:0<n->a=some ⟨b,o,none⟩)(x:n<=cap/\cap<=maxLen)
 (y:∀args w,(callFunc c args).run prog w=.ok (.enter c args) w)
 (t:∀(W:World)(h:Nat),w.grownBy W none->h<n->W.cell? ⟨b,o+h*4,none⟩=some (j h)/\W.cell? ⟨b,o+h*4+1,none⟩=some (l h)/\W.cell? ⟨b,o+h*4+2,none⟩=some (m h)/\W.cell? ⟨b,o+h*4+3,none⟩=some (q h))
 (u:∀(W:World)(h:Nat),w.grownBy W none->h<n->Calls prog c (la++ #[.agg #[j h,l h,m h,q h]]++lb) W (λe z=>dJ (p h) e/\W.grownBy z none)):
 Calls prog 292 #[.slice a n cap,.func (.func c) la lb] w λe A=>dJ (∃i,i<n/\p i) e/\w.grownBy A none:=by
 have B:=J (GY a b o n cap c la lb w p j l m q (λ_ W=>w.grownBy W none) v x y (aB _ _) t (λW h g C=>(u W h g C).mono (λ_ _ f=>⟨f.1,aq g f.2⟩)));obtain⟨R,d⟩:∃R:Prop,R=(∃i,i<n/\p i):=⟨_,rfl⟩
 rw[<-d];replace d:=J d;clear u t;go_enter func292,ntmps292;go_wp2_with fail;refine(Z B).mono ?_;rintro e F(⟨k,D,rfl,hp,-,r⟩|⟨rfl,hp,r⟩)
 ·have hd:decide (0<=(k:Int))=true:=bK (by omega);have s:Hid (dJ R (.returned (.bool true))):=J (rJ (by rw[Z d];exact⟨k,D,hp⟩));go_wp2_with fail;go_ret;exact⟨Z s,r⟩
 have s:Hid (dJ R (.returned (.bool false))):=J (lN (by rw[Z d];rintro⟨i,E,f⟩;exact hp i E f));replace hp:=J hp;go_wp2_with fail;go_ret;exact⟨Z s,r⟩
theorem G4(a:Option Addr)(b o n cap l:Nat)(la lb:Array Value)(w:World)(p:Nat->Prop)(y z A B C D E:Nat->Value)(Inv:Nat->World->Prop)(F:0<n->a=some ⟨b,o,none⟩)(G:n<=cap/\cap<=maxLen)
 (P:∀args w,(callFunc l args).run prog w=.ok (.enter l args) w) (h0:Inv 0 w)
 (r:∀(W:World)(h:Nat),Inv h W->h<n->W.cell? ⟨b,o+h*7,none⟩=some (y h)/\W.cell? ⟨b,o+h*7+1,none⟩=some (z h)/\W.cell? ⟨b,o+h*7+2,none⟩=some (A h)/\W.cell? ⟨b,o+h*7+3,none⟩=some (B h)/\W.cell? ⟨b,o+h*7+4,none⟩=some (C h)/\W.cell? ⟨b,o+h*7+5,none⟩=some (D h)/\W.cell? ⟨b,o+h*7+6,none⟩=some (E h))
 (s:∀(W:World)(h:Nat),Inv h W->h<n->Calls prog l (la++ #[.agg #[y h,z h,A h,B h,C h,D h,E h]]++lb) W (λe H=>dJ (p h) e/\Inv (h+1) H)):
 Calls prog 213 #[.slice a n cap,.func (.func l) la lb] w λe c=>(∃k:Nat,k<n/\e=.returned (.int .i64 (k:Int))/\p k/\(∀i,i<k->¬p i)/\Inv (k+1) c)\/(e=.returned (.int .i64 (-1))/\(∀i,i<n->¬p i)/\Inv n c):=by
 obtain⟨R,d⟩:∃R:Ending->World->Prop,R=λe c=>(∃k:Nat,k<n/\e=.returned (.int .i64 (k:Int))/\p k/\(∀i,i<k->¬p i)/\Inv (k+1) c)\/(e=.returned (.int .i64 (-1))/\(∀i,i<n->¬p i)/\Inv n c):=⟨_,rfl⟩
 rw[<-d];obtain⟨Q,I⟩:=G;unfold maxLen at I;replace d:=J d;replace s:=J s;replace r:=J r;replace h0:=J h0;go_enter func213,ntmps213;go_wp2_with fail;go_loopw [8] (λu wr=>∃j:Nat,j<=n/\u=.int .i64 (j:Int)/\(∀i,i<j->¬p i)/\Inv j wr) (λu _=>n-(intOf u).toNat);case atStart=>exact⟨0,by omega,rfl,λi hi=>by omega,Z h0⟩
 case round=>
  obtain⟨j,S,rfl,f,g⟩:=hrel;replace f:=J f;by_cases v:j<n
  ·have d1:decide ((j:Int)<(n:Int))=true:=bK (by omega);obtain⟨T,U,V,X,Y,y5,y6⟩:=Z r wr j g v;have hF:=J (Z s wr j g v);have K:=F (by omega);subst K;have i1:(j:Int)<(n:Int):=by omega
   replace g:=J g;clear F;go_wp2_with fail;refine(Z hF).mono ?_;rintro e L⟨⟨t,rfl,m⟩,q⟩;replace q:=J q;cases t
   ·have M:Hid (¬p j):=J (λhp=>by cases m.2 hp);clear m;go_wp2_with fail;go_roundw;case rel=>
     refine⟨j+1,by omega,by simp,λi N=>?_,Z q⟩
     obtain h|rfl:=pX.1 N
     exact Z f i h;exact Z M
    case measure=>simp[intOf];omega
   have O:Hid (p j):=J (m.1 rfl);clear m;have x:Hid (R (.returned (.int .i64 (j:Int))) L):=J (by rw[Z d];exact .inl ⟨j,v,rfl,Z O,Z f,Z q⟩);go_wp2_with fail;exact Z x
  have d1:decide ((j:Int)<(n:Int))=false:=bI (by omega);obtain rfl:j=n:=by omega
  have x:Hid (R (.returned (.int .i64 (-1))) wr):=J (by rw[Z d];exact .inr ⟨rfl,Z f,g⟩);go_wp2_with fail;exact Z x
theorem G7(a:Option Addr)(b o n cap c:Nat)(la lb:Array Value)(w:World)(p:Nat->Prop)(j l m q r s t:Nat->Value)(z:0<n->a=some ⟨b,o,none⟩)(A:n<=cap/\cap<=maxLen)
 (B:∀args w,(callFunc c args).run prog w=.ok (.enter c args) w)
 (x:∀(W:World)(h:Nat),w.grownBy W none->h<n->W.cell? ⟨b,o+h*7,none⟩=some (j h)/\W.cell? ⟨b,o+h*7+1,none⟩=some (l h)/\W.cell? ⟨b,o+h*7+2,none⟩=some (m h)/\W.cell? ⟨b,o+h*7+3,none⟩=some (q h)/\W.cell? ⟨b,o+h*7+4,none⟩=some (r h)/\W.cell? ⟨b,o+h*7+5,none⟩=some (s h)/\W.cell? ⟨b,o+h*7+6,none⟩=some (t h))
 (y:∀(W:World)(h:Nat),w.grownBy W none->h<n->Calls prog c (la++ #[.agg #[j h,l h,m h,q h,r h,s h,t h]]++lb) W (λe C=>dJ (p h) e/\W.grownBy C none)):
 Calls prog 162 #[.slice a n cap,.func (.func c) la lb] w λe D=>dJ (∃i,i<n/\p i) e/\w.grownBy D none:=by
 have E:=J (G4 a b o n cap c la lb w p j l m q r s t (λ_ W=>w.grownBy W none) z A B (aB _ _) x (λW h g F=>(y W h g F).mono (λ_ _ f=>⟨f.1,aq g f.2⟩)));obtain⟨R,d⟩:∃R:Prop,R=(∃i,i<n/\p i):=⟨_,rfl⟩
 rw[<-d];replace d:=J d;clear y x;go_enter func162,ntmps162;go_wp2_with fail;refine(Z E).mono ?_;rintro e I(⟨k,G,rfl,hp,-,u⟩|⟨rfl,hp,u⟩)
 ·have hd:decide (0<=(k:Int))=true:=bK (by omega);have v:Hid (dJ R (.returned (.bool true))):=J (rJ (by rw[Z d];exact⟨k,G,hp⟩));go_wp2_with fail;go_ret;exact⟨Z v,u⟩
 have v:Hid (dJ R (.returned (.bool false))):=J (lN (by rw[Z d];rintro⟨i,H,f⟩;exact hp i H f));replace hp:=J hp;go_wp2_with fail;go_ret;exact⟨Z v,u⟩
theorem G9(a:Option Addr)(b o n cap l:Nat)(la lb:Array Value)(w:World)(p:Nat->Prop)(y z:Nat->Value)(Inv:Nat->World->Prop)(A:0<n->a=some ⟨b,o,none⟩)(B:n<=cap/\cap<=maxLen)
 (K:∀args w,(callFunc l args).run prog w=.ok (.enter l args) w) (h0:Inv 0 w)
 (r:∀(W:World)(h:Nat),Inv h W->h<n->W.cell? ⟨b,o+h*2,none⟩=some (y h)/\W.cell? ⟨b,o+h*2+1,none⟩=some (z h))
 (s:∀(W:World)(h:Nat),Inv h W->h<n->Calls prog l (la++ #[.agg #[y h,z h]]++lb) W (λe C=>dJ (p h) e/\Inv (h+1) C)):
 Calls prog 305 #[.slice a n cap,.func (.func l) la lb] w λe c=>(∃k:Nat,k<n/\e=.returned (.int .i64 (k:Int))/\p k/\(∀i,i<k->¬p i)/\Inv (k+1) c)\/(e=.returned (.int .i64 (-1))/\(∀i,i<n->¬p i)/\Inv n c):=by
 obtain⟨R,d⟩:∃R:Ending->World->Prop,R=λe c=>(∃k:Nat,k<n/\e=.returned (.int .i64 (k:Int))/\p k/\(∀i,i<k->¬p i)/\Inv (k+1) c)\/(e=.returned (.int .i64 (-1))/\(∀i,i<n->¬p i)/\Inv n c):=⟨_,rfl⟩
 rw[<-d];obtain⟨L,D⟩:=B;unfold maxLen at D;replace d:=J d;replace s:=J s;replace r:=J r;replace h0:=J h0;go_enter func305,ntmps305;go_wp2_with fail;go_loopw [8] (λu wr=>∃j:Nat,j<=n/\u=.int .i64 (j:Int)/\(∀i,i<j->¬p i)/\Inv j wr) (λu _=>n-(intOf u).toNat);case atStart=>exact⟨0,by omega,rfl,λi hi=>by omega,Z h0⟩
 case round=>
  obtain⟨j,M,rfl,f,g⟩:=hrel;replace f:=J f;by_cases v:j<n
  ·have d1:decide ((j:Int)<(n:Int))=true:=bK (by omega);obtain⟨N,O⟩:=Z r wr j g v;have hF:=J (Z s wr j g v);have E:=A (by omega);subst E;have P:(j:Int)<(n:Int):=by omega
   replace g:=J g;clear A;go_wp2_with fail;refine(Z hF).mono ?_;rintro e F⟨⟨t,rfl,m⟩,q⟩;replace q:=J q;cases t
   ·have G:Hid (¬p j):=J (λhp=>by cases m.2 hp);clear m;go_wp2_with fail;go_roundw;case rel=>
     refine⟨j+1,by omega,by simp,λi H=>?_,Z q⟩
     obtain h|rfl:=pX.1 H
     exact Z f i h;exact Z G
    case measure=>simp[intOf];omega
   have I:Hid (p j):=J (m.1 rfl);clear m;have x:Hid (R (.returned (.int .i64 (j:Int))) F):=J (by rw[Z d];exact .inl ⟨j,v,rfl,Z I,Z f,Z q⟩);go_wp2_with fail;exact Z x
  have d1:decide ((j:Int)<(n:Int))=false:=bI (by omega);obtain rfl:j=n:=by omega
  have x:Hid (R (.returned (.int .i64 (-1))) wr):=J (by rw[Z d];exact .inr ⟨rfl,Z f,g⟩);go_wp2_with fail;exact Z x
theorem Ha(a:Option Addr)(b o n cap c:Nat)(la lb:Array Value)(w:World)(p:Nat->Prop)(j l:Nat->Value)(t:0<n->a=some ⟨b,o,none⟩)(u:n<=cap/\cap<=maxLen)
 (v:∀args w,(callFunc c args).run prog w=.ok (.enter c args) w)
 (r:∀(W:World)(h:Nat),w.grownBy W none->h<n->W.cell? ⟨b,o+h*2,none⟩=some (j h)/\W.cell? ⟨b,o+h*2+1,none⟩=some (l h))
 (s:∀(W:World)(h:Nat),w.grownBy W none->h<n->Calls prog c (la++ #[.agg #[j h,l h]]++lb) W (λe x=>dJ (p h) e/\W.grownBy x none)):
 Calls prog 300 #[.slice a n cap,.func (.func c) la lb] w λe y=>dJ (∃i,i<n/\p i) e/\w.grownBy y none:=by
 have z:=J (G9 a b o n cap c la lb w p j l (λ_ W=>w.grownBy W none) t u v (aB _ _) r (λW h g A=>(s W h g A).mono (λ_ _ f=>⟨f.1,aq g f.2⟩)));obtain⟨R,d⟩:∃R:Prop,R=(∃i,i<n/\p i):=⟨_,rfl⟩
 rw[<-d];replace d:=J d;clear s r;go_enter func300,ntmps300;go_wp2_with fail;refine(Z z).mono ?_;rintro e D(⟨k,B,rfl,hp,-,m⟩|⟨rfl,hp,m⟩)
 ·have hd:decide (0<=(k:Int))=true:=bK (by omega);have q:Hid (dJ R (.returned (.bool true))):=J (rJ (by rw[Z d];exact⟨k,B,hp⟩));go_wp2_with fail;go_ret;exact⟨Z q,m⟩
 have q:Hid (dJ R (.returned (.bool false))):=J (lN (by rw[Z d];rintro⟨i,C,f⟩;exact hp i C f));replace hp:=J hp;go_wp2_with fail;go_ret;exact⟨Z q,m⟩
theorem Il(t:Nat)(a:Option Addr)(c:Nat)(l:List Int)(n:Int)(w:World)(ho:bm w t (.slice a l.length c) l)(C:dS n)(U:t<=w.heap.size)(hl:l.length<=90000000):
 Calls prog 266 #[.slice a l.length c,.int .u64 n] w λe A=>
  ∃h m,e=.returned (.slice h (l.length+(aR n).length) m)/\dB w t (.slice a l.length c) A (.slice h (l.length+(aR n).length) m) (l++aR n):=by
 have G:=C;obtain⟨n0,V⟩:=C;obtain⟨k,p,H,D,d,hp,I,E⟩:∃(k p:Nat)(H:Int),aR n=jS (n+H) k/\((k=1/\p=0/\H=0)\/(k=2/\p=1/\H=16384)\/(k=4/\p=2/\H=2147483648)\/(k=8/\p=3/\H=13835058055282163712))/\pw n=(p:Int)/\bits .or .u64 n H=n+H/\0<=n+H/\n+H<18446744073709551616:=by
  by_cases b:n<64;refine⟨1,0,0,by rw[Int.add_zero];exact Ft b n0,.inl ⟨rfl,rfl,rfl⟩,by simp[pw,b],?_,by omega⟩
  have:=uV n 0 6 n0 (by simpa using b) (by decide);simpa using this;by_cases f:n<16384;exact⟨2,1,16384,Fu b f,.inr (.inl ⟨rfl,rfl,rfl⟩),by simp[pw,b,f],by simpa using uV n 1 14 n0 (by simpa using f) (by decide),by omega⟩
  by_cases u:n<1073741824;exact⟨4,2,2147483648,Fv b f u,.inr (.inr (.inl ⟨rfl,rfl,rfl⟩)),by simp[pw,b,f,u],by simpa using uV n 2 30 n0 (by simpa using u) (by decide),by omega⟩
  exact⟨8,3,13835058055282163712,Fw b f u G,.inr (.inr (.inr ⟨rfl,rfl,rfl⟩)),by simp[pw,b,f,u],by simpa using uV n 3 62 n0 (by simp;omega) (by decide),by omega⟩
 have q:=zY (n+H) k;have x:=Fs (n+H) k;rw[D];rw[q];clear D;replace q:=J q;replace x:=J x;have W:1<=k/\k<=8:=by omega
 obtain⟨S,r⟩:∃S:Int,S=8*(k:Int)-8:=⟨_,rfl⟩
 replace r:=J r;obtain⟨M,B⟩:=exq (n+H);rw[<-B]at I E x q⊢;replace B:=J B;obtain⟨d,rfl,rfl⟩|⟨d,rfl,rfl⟩|⟨d,rfl,rfl⟩|⟨d,rfl,rfl⟩:=d
 all_goals
  replace d:=J d
  go_enter func266,ntmps266
  go_wp2_with (go_at_call 295;refine(zX n _).mono ?_;rintro e A⟨rfl,rfl⟩;rw[hp])
  go_loopw [0,7] (λv i wr=>∃(j:Nat)(h:Option Addr)(m:Nat),j<=k/\i=.int .i64 (S-8*(j:Int))/\v=.slice h (l.length+j) m/\dB A t (.slice a l.length c) wr v (l++(jS M k).take j)) (λ_ i _=>(intOf i+8).toNat)
  case atStart=>exact⟨0,a,c,by omega,fm (Value.int .i64) (by have:=Z d;have:=Z r;omega),rfl,by simpa using dB.refl ho⟩
  case round=>
   obtain⟨j,h,m,X,rfl,rfl,g⟩:=hrel
   by_cases K:j<k
   ·obtain⟨s,hs⟩:∃s:Nat,(s:Int)=S-8*(j:Int):=⟨8*(k-1)-8*j,by have:=Z r;omega⟩
    have F:s=8*(k-1)-8*j:=by have:=Z r;omega
    have Y:s<64:=by omega
    rw[<-hs];replace hs:=J hs;have y:=Z x j K;rw[<-F]at y;replace y:=J y;clear F;have al:=g.size;have L:W8 (M/2^s %256):=by unfold W8;omega
    have N:=J (uM wr _ L);have O:=J (g.still (aH wr (.cells #[.int .u8 (M/2^s %256)] 5) none)).own;have z:(l++(jS M k).take j).length=l.length+j:=by simp[Z q];omega
    replace z:=J z;replace g:=J g;obtain⟨ax,aC⟩:=E;go_wp2_with (at_builtin;refine rG (by rfl) _ _ (by rfl) t _ (l++(jS M k).take j) (by rfl) (Z O) _ _ _ [M/2^s %256] (by rfl) (Z N) ?_ ?_ ?_;(rw[Z z];simp;omega);(simp;omega);rw[Z z];intro P c3 w3 Q R T);go_roundw;case rel=>
     refine⟨j+1,P,c3,by omega,by have:=Z hs;simp;omega,rfl,?_⟩
     rw[Z y,<-fg];exact(Z g).app (aH _ _ _) Q R T
    case measure=>have:=Z hs;simp[intOf];omega
   obtain rfl:j=k:=by omega
   have a1:¬(0:Int)<=S-8*(j:Int):=by have:=Z r;omega
   go_wp2_with fail
   go_ret
   refine⟨h,m,rfl,?_⟩
   rw[fJ (by rw[Z q];exact aP _)]at g
   exact g
theorem dB.iM(h:dB w n x V y K)(a:W.grownBy w none)(ho:bm w n x L)(b:W.heap.size<=n):W.grownBy V none:=
 cF a h.gb (λj e=>.inl (bD b (ho.lt j e).1))
theorem pC(h:dB w k x W (.slice a i j) L)(l:dS p)(m:k<=w.heap.size)(hl:L.length<=90000000):
 Calls prog 266 #[.slice a i j,.int .u64 p] W λe f=>∃b c d,e=.returned (.slice b c d)/\dB w k x f (.slice b c d) (L++aR p)/\dB W k (.slice a i j) f (.slice b c d) (L++aR p):=by
 have e1:i=L.length:=h.own.gI.2.1;subst e1;refine(Il k a j L p W h.own l (bD m h.size) hl).mono ?_;rintro e q⟨n,c2,rfl,g⟩;exact⟨n,_,c2,rfl,h.trans g,g⟩
theorem dB.box{wr:World}(h:dB w n x W y K)(ho:bm wr n x L)(a:wr.heap.size<w.heap.size):W.heap[wr.heap.size]?=w.heap[wr.heap.size]? /\y.ownBlock≠some wr.heap.size:=
 h.apart a (λe=>by have:=(ho.lt _ e).2;omega)
theorem vG(h:W.heap[n]?=w.heap[n]?)(i:Nat):W.cell? ⟨n,i,none⟩=w.cell? ⟨n,i,none⟩:=lH (w:=w) h
theorem rV(h0:0<=p-q)(a:p-q<18446744073709551616):IntKind.u64.wrap (p-q)=p-q:=by rw[fh];omega
theorem Be(w0 w:World)(t:Nat)(a:Option Addr)(c:Nat)(l:List Int)(ra:Option Addr)(n cap:Nat)(rg:List Rg)(ho:bm w t (.slice a l.length c) l)(E:w0.grownBy w none)(L:w0.heap.size<=t)(f:bu w0 ra n cap rg)(q:iI rg)(F:t<=w.heap.size)(hl:l.length+16*rg.length<=80000000):
 Calls prog 238 #[.slice a l.length c,.slice ra n cap] w λe r=>∃u z A,e=.returned (.slice u z A)/\dB w t (.slice a l.length c) r (.slice u z A) (l++fS rg):=by
 have d:n=rg.length:=f.2.1;have b5:=f.2.2.1;have b0:=f.2.2.2.1;unfold maxLen at b0;have G:=q.1;obtain⟨-,-,-,-,h0|⟨b,o,rfl,-⟩⟩:=id f;omega;have B:∀W,w0.grownBy W none->W.cell? ⟨b,o,none⟩=some (.int .u64 (au rg 0).lo)/\W.cell? ⟨b,o+1,none⟩=some (.int .u64 (au rg 0).hi):=λW g=>by
  have:=(f.ao g).cell 0 G;rwa[nG,ou]at this
 have br:=oY f.1 q 0 G;have b3:=(q.2 0 G).1;obtain⟨M,O⟩:=exq ((au rg 0).lo);obtain⟨s,P⟩:=exq ((au rg 0).hi);have ax:lK rg=aR s++aR ((n:Int)-1)++aR (s-M):=by rw[O,P,d];rfl
 simp only[<-O,<-P]at B br b3;obtain⟨⟨v1,v2⟩,v3,v4⟩:=br;have b6:=rV (p:=s) (q:=M) (by omega) (by omega);have i0:(0:Int)<(n:Int):=by omega
 have b7:0<n:=by omega
 have b8:l.length+16*n<=80000000:=by omega
 replace hl:=J hl;replace d:=J d;replace O:=J O;replace P:=J P;replace ax:=J ax;replace B:=J B;replace G:=J G;have G0:=dB.refl ho;obtain⟨z1,z2⟩:=Z B w E;go_enter func238,ntmps238;go_wp2_with fail;refine(pC G0 ⟨v3,v4⟩ F (by omega)).mono ?_;rintro e w1⟨a1,n1,c1,rfl,G1,-⟩;clear z1 z2;have ca:IntKind.u64.wrap ((n:Int)-1)=(n:Int)-1:=rV (by omega) (by omega);go_wp2_with fail;refine(pC G1 ⟨by omega,by omega⟩ F (by have:=gJ s;simp;omega)).mono ?_;rintro e w2⟨a2,n2,c2,rfl,Q,-⟩;have bt:w2.drew.cell? ⟨b,o,none⟩=some (.int .u64 M)/\w2.drew.cell? ⟨b,o+1,none⟩=some (.int .u64 s):=Z B w2 (Q.iM E ho L);replace Q:=J Q;replace G0:=J G0;replace G1:=J G1;go_wp2_with fail;go_region_held3 (λr=>r.cell? ⟨b,o,none⟩=some (.int .u64 M)/\r.cell? ⟨b,o+1,none⟩=some (.int .u64 s)) (first|with_reducible exact bx|with_reducible exact bt)
  (first|(go_at_call 266;refine(pC ((Z Q).still (aW (aB _ _))) ⟨by omega,by omega⟩ F (by have:=gJ s;have:=gJ ((n:Int)-1);simp;omega)).mono ?_;rintro e w3⟨R,S,c3,rfl,H,-⟩;have bx:=Z B w3 (H.iM E ho L);replace H:=J H))
 clear bt;have aC:Hid (dB w t (.slice a l.length c) w3 (.slice R S c3) (l++lK rg)):=J (by rw[Z ax,<-fg,<-fg];exact Z H);clear H;by_cases b4:cap=1
 ·obtain rfl:n=1:=by omega
  subst b4;go_wp2_with fail;go_loopw [0,33] (λv i wr=>v=.slice R S c3/\i=.int .i64 0/\wr=w3) (λ_ _ _=>0);case atStart=>exact⟨rfl,rfl,rfl⟩
  case round=>
   obtain⟨rfl,rfl,rfl⟩:=hrel;go_wp2_with fail;go_ret;refine⟨R,S,c3,rfl,?_⟩
   have:fS rg=lK rg:=by unfold fS;rw[<-Z d];simp[jB]
   rw[this];exact Z aC
 go_wp2_with fail;clear bx;obtain⟨N,T⟩:=exq (n-1);rw[<-T];go_loopw [0,33] (λv i wr=>∃(j:Nat)(u:Option Addr)(z A:Nat),j<=N/\i=.int .i64 (j:Int)/\v=.slice u z A/\dB w t (.slice a l.length c) wr v (l++lK rg++jB rg j)) (λ_ i _=>N-(intOf i).toNat);case atStart=>exact⟨0,R,S,c3,by omega,rfl,rfl,by simpa [jB]using Z aC⟩
 case round=>
  obtain⟨j,u,z,A,hj,rfl,rfl,C⟩:=hrel;have gj:=C.iM E ho L;by_cases ch:j<N
  ·obtain⟨p1,-⟩:=(f.ao gj).cell j (by have:=Z d;omega);obtain⟨p2,p3⟩:=(f.ao gj).cell (j+1) (by have:=Z d;omega);have eo:o+(j+1)*2=o+2+j*2:=by omega
   rw[eo]at p2 p3;clear eo;have f1:=oY f.1 q j (by have:=Z d;omega);have f2:=oY f.1 q (j+1) (by have:=Z d;omega);have f3:=q.2 (j+1) (by have:=Z d;omega);unfold mT at f3;rw[rB]at f3;replace f3:=f3.2.2 (by omega);have f4:=(q.2 (j+1) (by have:=Z d;omega)).1;have a0:jB rg (j+1)=jB rg j++(aR ((au rg j).lo-(au rg (j+1)).hi-2)++aR ((au rg (j+1)).hi-(au rg (j+1)).lo)):=rfl;have a3:=λW(g:w0.grownBy W none)=>((f.ao g).cell j (by have:=Z d;omega)).1
   generalize (au rg j).lo=x at *;generalize (au rg (j+1)).lo=U at *;generalize (au rg (j+1)).hi=m at *;obtain⟨⟨f10,f11⟩,-⟩:=f1;obtain⟨⟨f20,f21⟩,f22,f23⟩:=f2;have cj:=rV (p:=x) (q:=m) (by omega) (by omega);have cp:=rV (p:=x-m) (q:=2) (by omega) (by omega);have cv:=rV (p:=m) (q:=U) (by omega) (by omega);have i1:(0:Int)<=(j:Int):=by omega
   have i2:(j:Int)<(n:Int):=by omega
   obtain⟨p,D⟩:=exq (wr.alloc (.cells #[.int .u64 U,.int .u64 m] 200));have a4:p.heap.size=wr.heap.size+1:=by rw[D];simp
   have V:wr.grownBy p none:=by rw[D];exact aH _ _ _
   have bb:p.heap[wr.heap.size]?=some (.cells #[.int .u64 U,.int .u64 m] 200 (0,0)):=by rw[D];exact aM _ _
   have I:∀W:World,W.heap[wr.heap.size]?=p.heap[wr.heap.size]? ->W.cell? ⟨wr.heap.size,0,none⟩=some (.int .u64 U)/\W.cell? ⟨wr.heap.size,1,none⟩=some (.int .u64 m):=λW h=>by
    rw[vG h,vG h];simp[World.cell?,bb]
   have p4:p.drew.cell? ⟨b,o+j*2,none⟩=some (.int .u64 x):=V.cell p1 (by simp);have bz:p.drew.cell? ⟨b,o+j*2,none⟩=some (.int .u64 x)/\p.drew.cell? ⟨wr.heap.size,1,none⟩=some (.int .u64 m):=⟨p4,(I p.drew rfl).2⟩
   clear p4;have bj:=C.own;have X:∀k,k<=N->(l++lK rg++jB rg k).length<=85000000:=λk hk=>by
    have q1:=xu rg k;have q2:(lK rg).length<=24:=by
     have a7:=gJ (au rg 0).hi;have a8:=gJ ((rg.length:Int)-1);have a9:=gJ ((au rg 0).hi-(au rg 0).lo);simp only[lK,bH];omega
    simp only[bH];omega
   replace C:=J C;replace bj:=J bj;replace I:=J I;replace bb:=J bb;replace a0:=J a0;replace a3:=J a3;replace X:=J X;replace T:=J T;replace V:=J V;replace a4:=J a4;clear aC;go_wp2_with fail;rw[<-D];replace D:=J D;go_region_held3 (λr=>r.cell? ⟨b,o+j*2,none⟩=some (.int .u64 x)/\r.cell? ⟨wr.heap.size,1,none⟩=some (.int .u64 m)) (first|with_reducible exact bM|with_reducible exact bz)
    (first|(go_at_call 266;refine(pC ((Z C).still (aW (Z V))) ⟨by omega,by omega⟩ F (by have:=Z X j (by omega);omega)).mono ?_;rintro e K⟨a5,n5,c5,rfl,Y,L5⟩;have al:=L5.box (Z bj) (by have:=Z a4;show _<p.heap.size;omega);have bM:K.cell? ⟨b,o+j*2,none⟩=some (.int .u64 x)/\K.cell? ⟨wr.heap.size,1,none⟩=some (.int .u64 m):=⟨Z a3 K (Y.iM E ho L),(Z I K al.1).2⟩;replace al:=J al;replace L5:=J L5;replace Y:=J Y))
   obtain⟨-,y2⟩:=bM;have y1:=(Z I K (Z al).1).1;clear bz p1 p2 p3;go_wp2_with fail;refine(pC (Z Y) ⟨by omega,by omega⟩ F (by have:=Z X j (by omega);have:=gJ (x-m-2);rw[bH];omega)).mono ?_;rintro e w6⟨a6,n6,c6,rfl,G6,-⟩;go_wp2_with fail;go_roundw;case rel=>
    refine⟨j+1,a6,n6,c6,by omega,by simp,rfl,?_⟩
    rw[Z a0,<-fg,<-fg];exact G6
   case measure=>simp[intOf];omega
  obtain rfl:j=N:=by omega
  go_wp2_with fail;go_ret;refine⟨u,z,A,rfl,?_⟩
  unfold fS;rw[<-fg,<-Z d,<-T];exact C
theorem Im(s:ByteArray):Lib.strCells s=bv (aG s):=by
 unfold Lib.strCells bv aG;rw[s9];rfl
theorem Io(ty:TypeId)(e:Nat)(v:Value)(l:List Int)(h:bm w e v l)(s:ByteArray)(H:l.length+s.size<=100000000)(u:e<=w.heap.size):
 ∃b i c d,(Builtin.append_ #[112,9] ty #[v,.string s]).run prog w=.ok (.slice b i c) d/\bm d e (.slice b i c) (l++aG s)/\w.grownBy d v.ownBlock/\((Value.slice b i c).ownBlock=v.ownBlock\/(Value.slice b i c).ownBlock=some w.heap.size):=by
 obtain⟨j,hi,k,m,n⟩:=lg xp;obtain⟨p,d,f,r,x,z⟩:=Lib.run_append_own_string (P:=prog) w e 112 9 ty 5 j underlying112 underlying9 hi k m n v l.length (bv l) h.2 s (by simp[maxLen];omega) (by omega) u;have t:p.ownBlock=v.ownBlock\/p.ownBlock=some w.heap.size:=by
  obtain⟨-,hl,⟨rfl,I⟩|⟨g,cap,A,rfl,K,B,L,M,C,N⟩⟩:=id h;by_cases D:s.size=0;rw[z.2 ⟨rfl,D⟩];exact .inl rfl;have a:=run_append_nil_string (P:=prog) w 112 9 ty 5 j _ underlying112 underlying9 hi k s (by omega) (by omega) (by rw[n];omega);rw[f]at a;simp only[Result.ok.injEq]at a;rw[a.1];exact .inr rfl;by_cases E:l.length+s.size<=cap;have a:=Lib.run_append_room_string (P:=prog) w 112 9 ty 5 j underlying112 underlying9 hi m g l.length cap A B s E (by rw[C];omega);rw[f]at a;simp only[Result.ok.injEq]at a;rw[a.1];exact .inl rfl;have a:=Lib.run_append_grow_string (P:=prog) w 112 9 ty 5 j _ underlying112 underlying9 hi k ⟨g,0,none⟩ l.length cap (bv l) (by rw[m,fC];omega) (h.2.cells (g:=g) rfl) s (by omega) (by omega) (by rw[n];exact growslice_fits (by omega) (by omega));rw[f]at a;simp only[Result.ok.injEq]at a;rw[a.1];exact .inr rfl
 have q:bm d e p (l++aG s):=by
  refine⟨λy F=>(bQ.1 F).elim (h.1 y) (qg s y),?_⟩
  rw[Im]at r;rw[bH,fu];simpa [bv]using r
 obtain⟨b,c,G,_⟩:=q.bs;rw[G]at f q t;exact⟨b,_,c,d,f,q,x,t⟩
theorem Ip{K:Act->World->Prop}(s x:Operand)
 (ho:H.op=.call {callee:=.builtin .append,args:= #[s,x],argTypes:= #[112,9]})
 (f:Nat) (v:Value) (l:List Int) (hs:I.eval s=v) (g:bm w f v l) (d:ByteArray) (i:I.eval x=.string d) (j:l.length+d.size<=100000000) (k:f<=w.heap.size)
 (h:∀a b c e,bm e f (.slice a b c) (l++aG d)->w.grownBy e v.ownBlock->((Value.slice a b c).ownBlock=v.ownBlock\/(Value.slice a b c).ownBlock=some w.heap.size)->
   K (I.put H.dst (.slice a b c)) e):Oper.wp prog H I w K F:=by
 obtain⟨a,b,c,e,m,n,p,q⟩:=Io (w:=w) H.type f v l g d j k;unfold Oper.wp execOp;simp only[ho,resolve,invoke,builtin,iU,mi,iT,nF,ki,mP,hs,i,m]
 exact h a b c e n p q
theorem Iq{g:Array Oper}{K:Act->World->Prop}{E:Prop}(i:H.guard=none)(s x:Operand)
 (ho:H.op=.call {callee:=.builtin .append,args:= #[s,x],argTypes:= #[112,9]})
 (a:Nat) (v:Value) (l:List Int) (hs:I.eval s=v) (j:bm w a v l) (d:ByteArray) (k:I.eval x=.string d) (m:l.length+d.size<=100000000) (n:a<=w.heap.size)
 (h:∀b c e f,bm f a (.slice b c e) (l++aG d)->w.grownBy f v.ownBlock->((Value.slice b c e).ownBlock=v.ownBlock\/(Value.slice b c e).ownBlock=some w.heap.size)->
   K (I.put H.dst (.slice b c e)) f):if Region.wanted H (yielded g I.tmps)=true then Oper.wp prog H I w K F else E:=by
 have p:Region.wanted H (yielded g I.tmps)=true:=by simp[Region.wanted,i]
 rw[az p];exact Ip s x ho a v l hs j d k m n h
def Wr(d:World)(f:Fr)(j k:Value)(l:List Int):Prop:=
 ∃F cap,k=.func (.func F) #[] cap/\(∀args w,(callFunc F args).run prog w=.ok (.enter F args) w)/\∀(w:World)(b:Nat)(a:Option Addr)(n c:Nat)(m:List Int),d.grownBy w none->d.heap.size<=b->b<=w.heap.size->bm w b (.slice a n c) m->m.length+16*f.ranges.length+f.data.size<=79000000->
  Calls prog F (#[.slice a n c,.agg (bP f j)]++cap) w λe p=>∃g h i,e=.returned (.slice g h i)/\dB w b (.slice a n c) p (.slice g h i) (m++l)
theorem Ir(args:Array Value)(w:World):(callFunc 272 args).run prog w=.ok (.enter 272 args) w:=by kernel_rfl
theorem Bf(args:Array Value)(w:World):(callFunc 275 args).run prog w=.ok (.enter 275 args) w:=by kernel_rfl
theorem Is(args:Array Value)(w:World):(callFunc 269 args).run prog w=.ok (.enter 269 args) w:=by kernel_rfl
theorem Iu(args:Array Value)(w:World):(callFunc 265 args).run prog w=.ok (.enter 265 args) w:=by kernel_rfl
theorem Bg(X:Nat)(w:World):Calls prog 230 #[.pointer (some ⟨X,0,none⟩)] w λe a=>e=.returned (.pointer (some ⟨X,2,none⟩))/\a=w:=by
 go_enter func230,ntmps230;go_wp2_with fail;go_ret;exact⟨rfl,rfl⟩
theorem Bh(X:Nat)(w:World):Calls prog 231 #[.pointer (some ⟨X,0,none⟩)] w λe a=>e=.returned (.pointer (some ⟨X,3,none⟩))/\a=w:=by
 go_enter func231,ntmps231;go_wp2_with fail;go_ret;exact⟨rfl,rfl⟩
theorem yg(b:World)(f:Fr)(g:Value)(B:Nat)(h:b.cell? ⟨B,0,none⟩=some (.func (.func 230) #[] #[]))(i:dS f.offset):
 Wr b f g (.func (.func 275) #[] #[.pointer (some ⟨B,0,none⟩)]) (aR f.offset):=by
 refine⟨_,_,rfl,Bf,λw r a n c m j t l ho hl=>?_⟩
 obtain⟨k,s,o,cd,fin,d,rg⟩:=f;have u:(w.alloc (.cells #[.int .i64 k,.int .i64 s,.int .u64 o,.int .u64 cd,.bool fin,.string d,g] 158)).cell? ⟨B,0,none⟩=some (.func (.func 230) #[] #[]):=(aH w _ none).cell (j.cell h (by simp)) (by simp);have G:=λob=>(dB.refl ho).still (aH w ob none)
 simp only[bP]at *;replace G:=J G;clear h;go_enter func275,ntmps275;go_wp2_with fail;refine(Bg _ _).mono ?_;rintro e v⟨rfl,rfl⟩;go_wp2_with fail;refine(pC (Z G _) i l (by omega)).mono ?_;rintro e x⟨p,n2,c2,rfl,q,-⟩;go_wp2_with fail;go_ret;exact⟨p,n2,c2,rfl,q⟩
theorem Bi(b:World)(f:Fr)(g:Value)(B:Nat)(h:b.cell? ⟨B,0,none⟩=some (.func (.func 231) #[] #[]))(i:dS f.code):
 Wr b f g (.func (.func 275) #[] #[.pointer (some ⟨B,0,none⟩)]) (aR f.code):=by
 refine⟨_,_,rfl,Bf,λw r a n c m j t l ho hl=>?_⟩
 obtain⟨k,s,o,cd,fin,d,rg⟩:=f;have u:(w.alloc (.cells #[.int .i64 k,.int .i64 s,.int .u64 o,.int .u64 cd,.bool fin,.string d,g] 158)).cell? ⟨B,0,none⟩=some (.func (.func 231) #[] #[]):=(aH w _ none).cell (j.cell h (by simp)) (by simp);have G:=λob=>(dB.refl ho).still (aH w ob none)
 simp only[bP]at *;replace G:=J G;clear h;go_enter func275,ntmps275;go_wp2_with fail;refine(Bh _ _).mono ?_;rintro e v⟨rfl,rfl⟩;go_wp2_with fail;refine(pC (Z G _) i l (by omega)).mono ?_;rintro e x⟨p,n2,c2,rfl,q,-⟩;go_wp2_with fail;go_ret;exact⟨p,n2,c2,rfl,q⟩
theorem yi(b:World)(f:Fr)(g:Value)(l:0<=f.stream)(p:f.stream<4):
 Wr b f g (.func (.func 265) #[] #[]) (aR f.stream):=by
 refine⟨_,_,rfl,Iu,λw q a n c m r t h ho hl=>?_⟩
 obtain⟨k,s,o,cd,fin,d,rg⟩:=f;have G:=λob=>(dB.refl ho).still (aH w ob none)
 simp only[bP]at *;replace G:=J G;have u:IntKind.u64.wrap s=s:=by rw[fh];omega
 go_enter func265,ntmps265;go_wp2_with fail;refine(pC (Z G _) ⟨by omega,by omega⟩ h (by omega)).mono ?_;rintro e v⟨i,n2,c2,rfl,j,-⟩;go_wp2_with fail;go_ret;exact⟨i,n2,c2,rfl,j⟩
theorem Iv(b:World)(f:Fr)(g:Value)(h:dr b f g)(i:iI f.ranges):
 Wr b f g (.func (.func 269) #[] #[]) (fS f.ranges):=by
 obtain⟨-,-,ra,cap,rfl,j⟩:=h;refine⟨_,_,rfl,Is,λw l a n c m p q x ho hl=>?_⟩
 obtain⟨k,s,o,cd,fin,d,rg⟩:=f;have r:n=m.length:=ho.gI.2.1;subst r;have y:m.length+16*rg.length+d.size<=79000000:=hl;have t:=J (λob=>Be b (w.alloc ob) l a c m ra rg.length cap rg (ho.ao (aH w ob none)) (ba p ob) q j i (by simp;omega) (by omega));have G:=J (λob=>(dB.refl ho).still (aH w ob none));simp only[bP]at *;go_enter func269,ntmps269;go_wp2_with fail;refine(Z t _).mono ?_;rintro e z⟨u,n2,c2,rfl,v⟩;go_wp2_with fail;go_ret;exact⟨u,n2,c2,rfl,(Z G _).trans v⟩
theorem Bj(y:World)(f:Fr)(p:Value):
 Wr y f p (.func (.func 272) #[] #[]) (aR f.data.size++aG f.data):=by
 refine⟨_,_,rfl,Ir,λw z a n c m L M x ho hl=>?_⟩
 obtain⟨k,s,o,cd,fin,d,rg⟩:=f;have G:=λob=>(dB.refl ho).still (aH w ob none)
 simp only[bP]at *;have N:IntKind.u64.wrap (d.size:Int)=(d.size:Int):=by rw[fh];omega
 obtain⟨b,g⟩:=exq (w.alloc (.cells #[.int .i64 k,.int .i64 s,.int .u64 o,.int .u64 cd,.bool fin,.string d,p] 158));have u:b.heap[w.heap.size]?=some (.cells #[.int .i64 k,.int .i64 s,.int .u64 o,.int .u64 cd,.bool fin,.string d,p] 158 (0,0)):=by rw[g];exact aM _ _
 have q:b.heap.size=w.heap.size+1:=by rw[g];simp
 have i:∀W:World,W.heap[w.heap.size]?=b.heap[w.heap.size]? ->W.cell? ⟨w.heap.size,5,none⟩=some (.string d):=λW h=>by
  rw[vG h];simp[World.cell?,u]
 have A:b.drew.cell? ⟨w.heap.size,5,none⟩=some (.string d):=i b.drew rfl;have O:=gJ (d.size:Int);replace G:=G (.cells #[.int .i64 k,.int .i64 s,.int .u64 o,.int .u64 cd,.bool fin,.string d,p] 158);rw[<-g]at G;replace G:=J G;replace i:=J i;replace u:=J u;replace q:=J q;replace ho:=J ho;go_enter func272,ntmps272;go_wp2_with fail;rw[<-g];replace g:=J g;go_region_held3 (λB=>B.cell? ⟨w.heap.size,5,none⟩=some (.string d)) (first|with_reducible exact C|with_reducible exact D|with_reducible exact A)
  (first
    |(go_at_call 266;refine(pC ((Z G).still (aW (aB _ _))) ⟨by omega,by omega⟩ x (by omega)).mono ?_;rintro e E⟨P,n2,c2,rfl,j,r⟩;have l:=r.box (Z ho) (by have:=Z q;show _<b.heap.size;omega);have D:=Z i E l.1;replace l:=J l;replace r:=J r;replace j:=J j)
    |(refine Iq (by rfl) _ _ (by rfl) z _ (m++aR (d.size:Int)) (by rfl) (Z j).own d (by rfl) (by rw[bH];omega) (bD x (Z j).size) ?_;intro F H c3 I v t K;have C:=Z i I ((t.block w.heap.size (by have:=(Z r).size;have:=Z q;have:b.drew.heap.size=b.heap.size:=rfl;omega) (λe=>(Z l).2 e.symm)).trans (Z l).1);replace t:=J t;replace v:=J v))
 go_wp2_with fail;go_ret;exact⟨F,H,c3,rfl,by rw[<-fg];exact(Z j).app (aB _ _) (Z v) (Z t) K⟩
def ik:List (List Int)->List Int
 |[]=>[]
 |x::r=>x++ik r
theorem Bk(l r:List (List Int)):ik (l++r)=ik l++ik r:=by
 induction l with
 |nil=>rfl
 |cons x l a=>simp[ik,a]
theorem Iw(l:List (List Int))(j:Nat)(h:j<l.length):ik (l.take (j+1))=ik (l.take j)++l.getD j []:=by
 rw[ry h,Bk,List.getD,eD h];simp[ik]
theorem Ix(l:List (List Int))(j:Nat):(ik (l.take j)).length<=(ik l).length:=by
 have h:=fm List.length (fm ik (oQ j l));rw[Bk,bH]at h;omega
def Bl(b:World)(f:Fr)(e g:Value)(a:List (List Int)):Prop:=
 ∃pa c,g=.slice pa a.length c/\a.length<=3/\a.length<=c/\(a=[]\/∃P,pa=some ⟨P,0,none⟩/\∀i,i<a.length->∃d R h,b.cell? ⟨P,i*2,none⟩=some d/\b.cell? ⟨P,i*2+1,none⟩=some (.func (.func R) #[] h)/\Wr b f e d (a.getD i []))
theorem Iy{a b f:Obj}(c:(((w.alloc a).alloc b).alloc f).grownBy W N)(d:∀j,N=some j->j<w.heap.size):W.heap[w.heap.size]?=some a/\W.heap[w.heap.size+1]?=some b:=by
 constructor;rw[c.block w.heap.size (by simp;omega) (λe=>by have:=d _ e.symm;omega),fj _ _ _ (by simp;omega),fj _ _ _ (by simp)];exact aM _ _;rw[c.block (w.heap.size+1) (by simp) (λe=>by have:=d _ e.symm;omega),fj _ _ _ (by simp),<-dQ w a];exact aM _ _
theorem Iz(M:World)(f:Fr)(u W:Value)(g:List (List Int))(O:Int)(Q:Bool)(t:Int)(ht:W8 t)(hp:Bl M f u W g)
 (w:World) (p:Nat) (a:Option Addr) (n c:Nat) (m:List Int) (g0:M.grownBy w none) (X:M.heap.size<=p) (bM:p<=w.heap.size) (ho:bm w p (.slice a n c) m) (hl:m.length+1+(ik g).length+16*f.ranges.length+f.data.size<=79000000):
 Calls prog 193 #[.agg #[.int .i64 O,.bool Q,.int .u8 t,W],.slice a n c,.agg (bP f u)] w λe w'=>∃x y z,e=.returned (.slice x y z)/\dB w p (.slice a n c) w' (.slice x y z) (m++(t::ik g)):=by
 obtain⟨pa,S,rfl,a9,bb,K⟩:=hp;obtain⟨k,s,o,cd,fin,d,rg⟩:=f;have b0:m.length+1+(ik g).length+16*rg.length+d.size<=79000000:=hl;have hn:n=m.length:=ho.gI.2.1;subst hn;simp only[bP]at *;have gW:w.grownBy ((w.alloc (.cells #[.int .i64 O,.bool Q,.int .u8 t,.slice pa g.length S] 317)).alloc (.cells #[.int .i64 k,.int .i64 s,.int .u64 o,.int .u64 cd,.bool fin,.string d,u] 158)) none:=ba (ba (aB _ _) _) _;have A:=uM ((w.alloc (.cells #[.int .i64 O,.bool Q,.int .u8 t,.slice pa g.length S] 317)).alloc (.cells #[.int .i64 k,.int .i64 s,.int .u64 o,.int .u64 cd,.bool fin,.string d,u] 158)) t ht;have C:=((dB.refl ho).still gW).still (aH _ (.cells #[.int .u8 t] 5) none);rw[dQ,dQ]at A;have Y:=J C.own;replace C:=J C;replace A:=J A;have al:=J (λj(e:(Value.slice a m.length c).ownBlock=some j)=>(ho.lt j e).2);go_enter func193,ntmps193;go_wp2_with (at_builtin;refine rG (by rfl) _ _ (by rfl) p _ m (by rfl) (Z Y) _ _ _ [t] (by rfl) (Z A) ?_ ?_ ?_;(simp;omega);(simp;omega);intro D c3 w3 L E G;obtain⟨T,U⟩:=Iy E (Z al);replace T:w3.cell? ⟨w.heap.size,3,none⟩=some (.slice pa g.length S):=(by simp[World.cell?,T]);replace L:=J L;replace E:=J E;replace G:=J G;replace U:=J U);clear T A Y;have bt:Hid (dB w p (.slice a m.length c) w3 (.slice D (m.length+1) c3) (m++[t])):=J ((Z C).app (aB _ _) (Z L) (Z E) (Z G));have bx:Hid ((Value.slice D (m.length+1) c3).ownBlock≠some (w.heap.size+1)):=J (by
  have g5:(Value.slice D (m.length+1) c3).ownBlock=(Value.slice a m.length c).ownBlock\/(Value.slice D (m.length+1) c3).ownBlock=some (((w.alloc _).alloc _).alloc _).heap.size:=Z G;obtain e|e:=g5
  rw[e];exact λh=>by have:=Z al _ h;omega
  ·rw[e];simp;omega)
 clear L E G C;obtain⟨N,q⟩:=exq g.length;rw[<-q];rw[<-q]at a9 bb;replace q:=J q;go_loopw [1,17] (λv i wr=>∃(j:Nat)(x:Option Addr)(y z:Nat),j<=N/\i=.int .i64 (j:Int)/\v=.slice x y z/\dB w p (.slice a m.length c) wr v (m++t::ik (g.take j))/\v.ownBlock≠some (w.heap.size+1)/\wr.heap[w.heap.size+1]?=some (.cells #[.int .i64 k,.int .i64 s,.int .u64 o,.int .u64 cd,.bool fin,.string d,u] 158 (0,0))) (λ_ i _=>N-(intOf i).toNat);case atStart=>exact⟨0,D,_,c3,by omega,rfl,rfl,by simpa [ik]using Z bt,Z bx,Z U⟩
 case round=>
  obtain⟨j,x,y,z,hj,rfl,rfl,r,V,H⟩:=hrel;by_cases b4:j<N
  ·obtain rfl|⟨P,rfl,K⟩:=K
   have:=Z q;simp at this;omega;obtain⟨wv,R,l,q1,q2,F,cap,rfl,hE,hF⟩:=K j (by have:=Z q;omega);have I:=r.iM g0 ho X;replace q1:=I.cell q1 (by simp);replace q2:=I.cell q2 (by simp);have b:∀ob,(wr.alloc ob).heap[w.heap.size+1]?=some (.cells #[.int .i64 k,.int .i64 s,.int .u64 o,.int .u64 cd,.bool fin,.string d,u] 158 (0,0)):=λob=>by
    rw[fj _ _ _ (aY.1 H).1];exact H
   replace b:=b (.cells #[.func (.func F) #[] cap,.func (.func R) #[] l] 356);have r0:(wr.alloc (.cells #[.func (.func F) #[] cap,.func (.func R) #[] l] 356)).cell? ⟨w.heap.size+1,0,none⟩=some (.int .i64 k):=by simp only[World.cell?,b];rfl
   have r1:(wr.alloc (.cells #[.func (.func F) #[] cap,.func (.func R) #[] l] 356)).cell? ⟨w.heap.size+1,1,none⟩=some (.int .i64 s):=by simp only[World.cell?,b];rfl
   have r2:(wr.alloc (.cells #[.func (.func F) #[] cap,.func (.func R) #[] l] 356)).cell? ⟨w.heap.size+1,2,none⟩=some (.int .u64 o):=by simp only[World.cell?,b];rfl
   have r3:(wr.alloc (.cells #[.func (.func F) #[] cap,.func (.func R) #[] l] 356)).cell? ⟨w.heap.size+1,3,none⟩=some (.int .u64 cd):=by simp only[World.cell?,b];rfl
   have r4:(wr.alloc (.cells #[.func (.func F) #[] cap,.func (.func R) #[] l] 356)).cell? ⟨w.heap.size+1,4,none⟩=some (.bool fin):=by simp only[World.cell?,b];rfl
   have r5:(wr.alloc (.cells #[.func (.func F) #[] cap,.func (.func R) #[] l] 356)).cell? ⟨w.heap.size+1,5,none⟩=some (.string d):=by simp only[World.cell?,b];rfl
   have r6:(wr.alloc (.cells #[.func (.func F) #[] cap,.func (.func R) #[] l] 356)).cell? ⟨w.heap.size+1,6,none⟩=some u:=by simp only[World.cell?,b];rfl
   have i1:(0:Int)<=(j:Int):=by omega
   have i2:(j:Int)<(N:Int):=by omega
   replace H:=J H;replace b:=J b;replace hF:=J hF;replace r:=J r;replace I:=J I;replace V:=J V;clear K;go_wp2_with fail;refine(Z hF (wr.alloc (.cells #[.func (.func F) #[] cap,.func (.func R) #[] l] 356)) p x y z _ (ba (Z I) _) X ?_ ((Z r).still (aH _ _ _)).own ?_).mono ?_;have:=(Z r).size;simp;omega;have:=Ix g j;simp only[bH,dq];omega;rintro e w5⟨a5,n5,c5,rfl,G5⟩;have a2:=G5.apart (B:=w.heap.size+1) (by have:=(aY.1 (Z H)).1;simp;omega) (Z V);go_wp2_with fail;go_roundw;case rel=>
    refine⟨j+1,a5,n5,c5,by omega,by simp,rfl,?_,a2.2,a2.1.trans (Z b)⟩
    rw[Iw g j (by have:=Z q;omega)];have:=((Z r).still (aH _ _ _)).trans G5;simpa [fg]using this
   case measure=>simp[intOf];omega
  obtain rfl:j=N:=by omega
  go_wp2_with fail;go_ret;refine⟨x,y,z,rfl,?_⟩
  rw[fJ (by rw[<-Z q];exact aP _)]at r;exact r
def sW:Value:=.func (.func 265) #[] #[]
def sR:Value:=.func (.func 267) #[] #[]
def rW:Value:=.func (.func 269) #[] #[]
def rR:Value:=.func (.func 270) #[] #[]
def bW:Value:=.func (.func 272) #[] #[]
def bR:Value:=.func (.func 273) #[] #[]
def nW(B:Nat):Value:=.func (.func 275) #[] #[.pointer (some ⟨B,0,none⟩)]
def nR(B:Nat):Value:=.func (.func 276) #[] #[.pointer (some ⟨B,0,none⟩)]
theorem rX(a:Fn)(first cap:Array Value)(w:World):(Instr.makeFunc a first cap).run prog w=.ok (.func a first cap) w:=rfl
theorem IA(w:World):Calls prog 226 #[] w λe a=>e=.returned (.agg #[.func (.func 265) #[] #[],.func (.func 267) #[] #[]])/\w.grownBy a none:=by
 have b:=rX;go_enter func226,ntmps226;go_wp2_with fail;refine cA (v:=.agg #[.func (.func 265) #[] #[],.func (.func 267) #[] #[]]) ?_ rfl ⟨rfl,?_⟩
 ·simp[results,results226,go_sem]
 exact aH _ _ _
theorem IB(w:World):Calls prog 227 #[] w λe a=>e=.returned (.agg #[.func (.func 269) #[] #[],.func (.func 270) #[] #[]])/\w.grownBy a none:=by
 have b:=rX;go_enter func227,ntmps227;go_wp2_with fail;refine cA (v:=.agg #[.func (.func 269) #[] #[],.func (.func 270) #[] #[]]) ?_ rfl ⟨rfl,?_⟩
 ·simp[results,results227,go_sem]
 exact aH _ _ _
theorem IC(w:World):Calls prog 228 #[] w λe a=>e=.returned (.agg #[.func (.func 272) #[] #[],.func (.func 273) #[] #[]])/\w.grownBy a none:=by
 have b:=rX;go_enter func228,ntmps228;go_wp2_with fail;refine cA (v:=.agg #[.func (.func 272) #[] #[],.func (.func 273) #[] #[]]) ?_ rfl ⟨rfl,?_⟩
 ·simp[results,results228,go_sem]
 exact aH _ _ _
theorem Bm(F B:Nat)(w:World)(b:B=w.heap.size):Calls prog 229 #[.func (.func F) #[] #[]] w λe a=>e=.returned (.agg #[.func (.func 275) #[] #[.pointer (some ⟨B,0,none⟩)],.func (.func 276) #[] #[.pointer (some ⟨B,0,none⟩)]])/\a.cell? ⟨B,0,none⟩=some (.func (.func F) #[] #[])/\w.grownBy a none:=by
 subst b;have c:=rX;go_enter func229,ntmps229;go_wp2_with fail;refine cA (v:=.agg #[.func (.func 275) #[] #[.pointer (some ⟨w.heap.size,0,none⟩)],.func (.func 276) #[] #[.pointer (some ⟨w.heap.size,0,none⟩)]]) ?_ rfl ⟨rfl,?_,?_⟩
 ·simp[results,results229,go_sem]
 simp;exact ba (aH _ _ _) _
def Bp(a b c d e:Nat):List Value:=
 [.int .i64 1,.bool false,.int .u8 0,.slice none 0 0,.int .i64 2,.bool false,.int .u8 1,.slice none 0 0,.int .i64 3,.bool false,.int .u8 2,.slice (some ⟨a,0,none⟩) 1 1,.int .i64 4,.bool false,.int .u8 4,.slice (some ⟨b,0,none⟩) 3 3,.int .i64 5,.bool false,.int .u8 8,.slice (some ⟨c,0,none⟩) 3 3,.int .i64 5,.bool true,.int .u8 9,.slice (some ⟨d,0,none⟩) 3 3,.int .i64 6,.bool false,.int .u8 28,.slice (some ⟨e,0,none⟩) 1 1]
structure jF(W:World)(T c d e f g a b:Nat):Prop where
 tab:W.rangeAt T 0 (Bp c d e f g)
 p2:W.rangeAt c 0 [rW,rR]
 p3:W.rangeAt d 0 [sW,sR,nW b,nR b,nW a,nR a]
 p4:W.rangeAt e 0 [sW,sR,nW a,nR a,bW,bR]
 p5:W.rangeAt f 0 [sW,sR,nW a,nR a,bW,bR]
 p6:W.rangeAt g 0 [nW b,nR b]
 bo:W.cell? ⟨a,0,none⟩=some (.func (.func 230) #[] #[])
 bc:W.cell? ⟨b,0,none⟩=some (.func (.func 231) #[] #[])
theorem jF.ao(h:jF w n k i j l m o b)(g:w.grownBy W none):jF W n k i j l m o b:=
 ⟨iX h.tab g (by simp),iX h.p2 g (by simp),iX h.p3 g (by simp),iX h.p4 g (by simp),iX h.p5 g (by simp),iX h.p6 g (by simp),g.cell h.bo (by simp),g.cell h.bc (by simp)⟩
theorem ID(w:World)(g a b c d e f:Obj)(W:World)(h:W=((((((w.alloc g).alloc a).alloc b).alloc c).alloc d).alloc e).alloc f):
 W.heap[w.heap.size+1]?=some a/\W.heap[w.heap.size+1+1]?=some b/\W.heap[w.heap.size+1+1+1]?=some c/\W.heap[w.heap.size+1+1+1+1]?=some d/\W.heap[w.heap.size+1+1+1+1+1]?=some e/\W.heap[w.heap.size+1+1+1+1+1+1]?=some f/\w.grownBy W none:=by
 subst h;refine⟨?_,?_,?_,?_,?_,?_,ba (ba (ba (ba (ba (ba (aH _ _ _) _) _) _) _) _) _⟩
 all_goals
  simp only[World.alloc,Array.getElem?_push,Array.size_push]
  repeat(first|rw[az trivial]|rw[az (by omega)]|rw[ah (by omega)])
theorem Bq(w:World):Calls prog 189 #[] w λe u=>∃T C E F G H I K,e=.returned (.slice (some ⟨T,0,none⟩) 7 7)/\jF u T C E F G H I K/\w.grownBy u none:=by
 go_enter func189,ntmps189;go_wp2_with fail;refine(IA _).mono ?_;rintro e w1⟨rfl,v⟩;go_wp2_with fail;refine(IB _).mono ?_;rintro e w2⟨rfl,x⟩;go_wp2_with fail;refine(IC _).mono ?_;rintro e l⟨rfl,y⟩;go_wp2_with fail;obtain⟨A,i⟩:=exq l.heap.size;obtain⟨b,c⟩:=exq ((((l.alloc (.cells #[.func (.func 265) #[] #[],.func (.func 267) #[] #[]] 356)).alloc (.cells #[.func (.func 269) #[] #[],.func (.func 270) #[] #[]] 356)).alloc (.cells #[.func (.func 272) #[] #[],.func (.func 273) #[] #[]] 356)));have m:b.heap[A]?=some (.cells #[.func (.func 265) #[] #[],.func (.func 267) #[] #[]] 356 (0,0))/\b.heap[A+1]?=some (.cells #[.func (.func 269) #[] #[],.func (.func 270) #[] #[]] 356 (0,0))/\b.heap[A+1+1]?=some (.cells #[.func (.func 272) #[] #[],.func (.func 273) #[] #[]] 356 (0,0)):=by
  rw[c,i];refine⟨?_,?_,?_⟩
  rw[fj _ _ _ (by simp;omega),fj _ _ _ (by simp)];exact aM _ _;rw[fj _ _ _ (by simp),<-dQ l (.cells #[.func (.func 265) #[] #[],.func (.func 267) #[] #[]] 356)];exact aM _ _;have:=aM ((l.alloc (.cells #[.func (.func 265) #[] #[],.func (.func 267) #[] #[]] 356)).alloc (.cells #[.func (.func 269) #[] #[],.func (.func 270) #[] #[]] 356)) (.cells #[.func (.func 272) #[] #[],.func (.func 273) #[] #[]] 356);rwa[dQ,dQ]at this
 have L:b.heap.size=A+3:=by rw[c,i];simp
 have z:w.grownBy b none:=by rw[c];exact ba (ba (ba (aq (aq v x) y) _) _) _
 rw[<-c];simp only[<-i]
 replace c:=J c;replace i:=J i;replace m:=J m;clear v x y;refine(Bm 230 (A+3) b L.symm).mono ?_;rintro e d⟨rfl,c4,n⟩;have a3:=n.size;replace c4:=J c4;go_wp2_with fail;obtain⟨p,f⟩:=exq (d.alloc (.cells #[.func (.func 275) #[] #[.pointer (some ⟨A+3,0,none⟩)],.func (.func 276) #[] #[.pointer (some ⟨A+3,0,none⟩)]] 356));have r:p.heap[d.heap.size]?=some (.cells #[.func (.func 275) #[] #[.pointer (some ⟨A+3,0,none⟩)],.func (.func 276) #[] #[.pointer (some ⟨A+3,0,none⟩)]] 356 (0,0)):=by rw[f];exact aM _ _
 have s:d.grownBy p none:=by rw[f];exact aH _ _ _
 have M:p.heap.size=d.heap.size+1:=by rw[f];simp
 rw[<-f];replace f:=J f;replace r:=J r;refine(Bm 231 (d.heap.size+1) p M.symm).mono ?_;rintro e a⟨rfl,c5,h⟩;have a4:=h.size;replace c5:=J c5;obtain⟨D,N⟩:=exq d.heap.size;simp only[<-N]at *;have j:Hid (∀W,a.grownBy W none->W.heap[A]?=some (.cells #[.func (.func 265) #[] #[],.func (.func 267) #[] #[]] 356 (0,0))/\W.heap[A+1]?=some (.cells #[.func (.func 269) #[] #[],.func (.func 270) #[] #[]] 356 (0,0))/\W.heap[A+1+1]?=some (.cells #[.func (.func 272) #[] #[],.func (.func 273) #[] #[]] 356 (0,0))/\W.heap[D]?=some (.cells #[.func (.func 275) #[] #[.pointer (some ⟨A+3,0,none⟩)],.func (.func 276) #[] #[.pointer (some ⟨A+3,0,none⟩)]] 356 (0,0))/\W.cell? ⟨A+3,0,none⟩=some (.func (.func 230) #[] #[])/\W.cell? ⟨D+1,0,none⟩=some (.func (.func 231) #[] #[])):=J (λW g=>by
  have q:=aq (aq (aq n s) h) g;have O:=aq h g;obtain⟨P,Q,R⟩:=Z m;exact⟨(q.block A (by omega) (by simp)).trans P,(q.block (A+1) (by omega) (by simp)).trans Q,(q.block (A+1+1) (by omega) (by simp)).trans R,(O.block D (by omega) (by simp)).trans (Z r),(aq (aq s h) g).cell (Z c4) (by simp),g.cell (Z c5) (by simp)⟩)
 have t:w.grownBy a none:=aq (aq (aq z n) s) h;clear m r c4 c5 n s h z;replace t:=J t;have S:Hid (∀W,(a.alloc (.cells #[.func (.func 275) #[] #[.pointer (some ⟨D+1,0,none⟩)],.func (.func 276) #[] #[.pointer (some ⟨D+1,0,none⟩)]] 356)).grownBy W none->W.heap[a.heap.size]?=some (.cells #[.func (.func 275) #[] #[.pointer (some ⟨D+1,0,none⟩)],.func (.func 276) #[] #[.pointer (some ⟨D+1,0,none⟩)]] 356 (0,0))):=J (λW g=>(g.block a.heap.size (by simp) (by simp)).trans (aM _ _));have k:Hid ((prog.info? 356).map (·.size)=some 2):=J (by kernel_rfl);go_wp2_with (first
  |(refine oS (by rfl) 356 _ (by rfl) A (by rfl) 356 _ (0,0) _ ((Z j _ ?_).1) underlying356 (by rfl) (Z k) ?_;(repeat(first|exact aB _ _|refine ba ?_ _)))
  |(refine oS (by rfl) 356 _ (by rfl) (A+1) (by rfl) 356 _ (0,0) _ ((Z j _ ?_).2.1) underlying356 (by rfl) (Z k) ?_;(repeat(first|exact aB _ _|refine ba ?_ _)))
  |(refine oS (by rfl) 356 _ (by rfl) (A+1+1) (by rfl) 356 _ (0,0) _ ((Z j _ ?_).2.2.1) underlying356 (by rfl) (Z k) ?_;(repeat(first|exact aB _ _|refine ba ?_ _)))
  |(refine oS (by rfl) 356 _ (by rfl) D (by rfl) 356 _ (0,0) _ ((Z j _ ?_).2.2.2.1) underlying356 (by rfl) (Z k) ?_;(repeat(first|exact aB _ _|refine ba ?_ _)))
  |(refine oS (by rfl) 356 _ (by rfl) a.heap.size (by rfl) 356 _ (0,0) _ (Z S _ ?_) underlying356 (by rfl) (Z k) ?_;(repeat(first|exact aB _ _|refine ba ?_ _))))
 go_ret;obtain⟨U,V,X,Y,h5,h6,B⟩:=ID a _ _ _ _ _ _ _ _ rfl;obtain⟨-,-,-,-,aC,a0⟩:=Z j _ B;exact⟨_,a.heap.size+1,a.heap.size+1+1,a.heap.size+1+1+1,a.heap.size+1+1+1+1,a.heap.size+1+1+1+1+1,A+3,D+1,rfl,⟨kj h6,kj U,kj V,kj X,kj Y,kj h5,aC,a0⟩,aq (Z t) B⟩
structure Sh where
 k:Int
 fin:Bool
 t:Int
 pa:Option Addr
 n:Nat
def bX(a b c d e:Nat):List Sh:=
 [⟨1,false,0,none,0⟩,⟨2,false,1,none,0⟩,⟨3,false,2,some ⟨a,0,none⟩,1⟩,⟨4,false,4,some ⟨b,0,none⟩,3⟩,⟨5,false,8,some ⟨c,0,none⟩,3⟩,⟨5,true,9,some ⟨d,0,none⟩,3⟩,⟨6,false,28,some ⟨e,0,none⟩,1⟩]
def bE(l:List Sh)(j:Nat):Sh:=l.getD j ⟨0,false,0,none,0⟩
theorem qo(h:j<7):j=0\/j=1\/j=2\/j=3\/j=4\/j=5\/j=6:=by omega
theorem jF.at{f g:Nat}(h:jF W l m o b i j f g)(a:Nat)(p:a<7):
 W.cell? ⟨l,a*4,none⟩=some (.int .i64 (bE (bX m o b i j) a).k)/\W.cell? ⟨l,a*4+1,none⟩=some (.bool (bE (bX m o b i j) a).fin)/\W.cell? ⟨l,a*4+2,none⟩=some (.int .u8 (bE (bX m o b i j) a).t)/\W.cell? ⟨l,a*4+3,none⟩=some (.slice (bE (bX m o b i j) a).pa (bE (bX m o b i j) a).n (bE (bX m o b i j) a).n):=by
 have c:=λ(d:Nat)(v:Value)(e:(Bp m o b i j)[d]?=some v)=>h.tab d v e
 simp only[dR]at c;obtain rfl|rfl|rfl|rfl|rfl|rfl|rfl:=qo p<;>exact⟨c _ _ rfl,c _ _ rfl,c _ _ rfl,c _ _ rfl⟩
theorem jo{a:Value}(h:w.heap[b]?=some (.cells #[x,y,z,a] T (0,0))):w.cell? ⟨b,0,none⟩=some x/\w.cell? ⟨b,1,none⟩=some y/\w.cell? ⟨b,2,none⟩=some z/\w.cell? ⟨b,3,none⟩=some a/\∀o,w.frozen? ⟨b,o,none⟩=false:=by
 simp[World.cell?,World.frozen?,h]
theorem IE(w:World)(T a b c l m Bo Bc:Nat)(X:jF w T a b c l m Bo Bc)(f:Fr)(y:Value):
 Calls prog 191 #[.slice (some ⟨T,0,none⟩) 7 7,.agg (bP f y)] w λe A=>
  ((∃j,j<7/\(bE (bX a b c l m) j).k=f.kind/\(bE (bX a b c l m) j).fin=(f.fin&&decide (f.kind=5))/\e=.returned (.tuple #[.agg #[.int .i64 (bE (bX a b c l m) j).k,.bool (bE (bX a b c l m) j).fin,.int .u8 (bE (bX a b c l m) j).t,.slice (bE (bX a b c l m) j).pa (bE (bX a b c l m) j).n (bE (bX a b c l m) j).n],.bool true]))\/
    ((∀j,j<7->¬((bE (bX a b c l m) j).k=f.kind/\(bE (bX a b c l m) j).fin=(f.fin&&decide (f.kind=5))))/\e=.returned (.tuple #[.agg #[.int .i64 0,.bool false,.int .u8 0,.slice none 0 0],.bool false])))/\w.grownBy A none:=by
 have P:=λ(W:World)(g:w.grownBy W none)=>(X.ao g).at
 generalize bX a b c l m=L at *;clear X;obtain⟨k,s,o,cd,fin,d,rg⟩:=f;obtain⟨R,r⟩:∃R:Ending->World->Prop,R=λe A=>((∃j,j<7/\(bE L j).k=k/\(bE L j).fin=(fin&&decide (k=5))/\e=.returned (.tuple #[.agg #[.int .i64 (bE L j).k,.bool (bE L j).fin,.int .u8 (bE L j).t,.slice (bE L j).pa (bE L j).n (bE L j).n],.bool true]))\/
  ((∀j,j<7->¬((bE L j).k=k/\(bE L j).fin=(fin&&decide (k=5))))/\e=.returned (.tuple #[.agg #[.int .i64 0,.bool false,.int .u8 0,.slice none 0 0],.bool false])))/\w.grownBy A none:=⟨_,rfl⟩
 show Calls prog 191 #[.slice (some ⟨T,0,none⟩) 7 7,.agg #[.int .i64 k,.int .i64 s,.int .u64 o,.int .u64 cd,.bool fin,.string d,y]] w (λe A=>((∃j,j<7/\(bE L j).k=k/\(bE L j).fin=(fin&&decide (k=5))/\e=.returned (.tuple #[.agg #[.int .i64 (bE L j).k,.bool (bE L j).fin,.int .u8 (bE L j).t,.slice (bE L j).pa (bE L j).n (bE L j).n],.bool true]))\/
  ((∀j,j<7->¬((bE L j).k=k/\(bE L j).fin=(fin&&decide (k=5))))/\e=.returned (.tuple #[.agg #[.int .i64 0,.bool false,.int .u8 0,.slice none 0 0],.bool false])))/\w.grownBy A none)
 rw[<-r];obtain⟨q,Q⟩:∃q:Bool,q=(fin&&decide (k=5)):=⟨_,rfl⟩
 rw[<-Q]at r;replace r:=J r;replace P:=J P;have B:∀W:World,(((w.alloc (.cells #[.int .i64 k,.int .i64 s,.int .u64 o,.int .u64 cd,.bool fin,.string d,y] 158)).alloc (.cells #[.int .i64 0,.bool false,.int .u8 0,.slice none 0 0] 317))).grownBy W none->W.heap[w.heap.size]?=some (.cells #[.int .i64 k,.int .i64 s,.int .u64 o,.int .u64 cd,.bool fin,.string d,y] 158 (0,0))/\W.heap[w.heap.size+1]?=some (.cells #[.int .i64 0,.bool false,.int .u8 0,.slice none 0 0] 317 (0,0))/\w.grownBy W none:=λW g=>
  ⟨(g.block _ (by simp;omega) (by simp)).trans (by rw[fj _ _ _ (by simp)];exact aM _ _),(g.block _ (by simp) (by simp)).trans (by rw[<-dQ w (.cells #[.int .i64 k,.int .i64 s,.int .u64 o,.int .u64 cd,.bool fin,.string d,y] 158)];exact aM _ _),aq (ba (aH _ _ _) _) g⟩
 replace B:=J B;obtain⟨W0,C⟩:=exq ((w.alloc (.cells #[.int .i64 k,.int .i64 s,.int .u64 o,.int .u64 cd,.bool fin,.string d,y] 158)).alloc (.cells #[.int .i64 0,.bool false,.int .u8 0,.slice none 0 0] 317));rw[<-C]at B;obtain⟨D,E⟩:∃D:Nat->Prop,D=λj=>¬((bE L j).k=k/\(bE L j).fin=q):=⟨_,rfl⟩
 have a1:(fin=false/\q=false)\/(fin=true/\(k==5)=true/\q=true)\/(fin=true/\(k==5)=false/\q=false):=by
  rw[Q];cases fin;simp;by_cases h5:k=5<;>simp[h5]
 clear Q;replace E:=J E;obtain⟨rfl,rfl⟩|⟨rfl,Y,rfl⟩|⟨rfl,Y,rfl⟩:=a1
 all_goals
  go_enter func191,ntmps191
  go_wp2_with fail
  try clear Y
  rw[<-C]
  replace C:=J C
  go_loopw [18] (λi wr=>∃j:Nat,j<=7/\i=.int .i64 (j:Int)/\(∀i,i<j->D i)/\W0.grownBy wr none) (λi _=>7-(intOf i).toNat)
  case atStart=>exact⟨0,by omega,rfl,λi hi=>by omega,aB _ _⟩
  case round=>
   obtain⟨j,hj,rfl,z,U⟩:=hrel
   obtain⟨b1,b2,F⟩:=Z B wr U
   by_cases V:j<7
   ·obtain⟨c1,c2,c3,c4⟩:=Z P wr F j V;obtain⟨S,p⟩:=exq (bE L j);rw[<-p]at c1 c2 c3 c4;obtain⟨K,G,H,I,PN⟩:=S;simp only at c1 c2 c3 c4;have al:Hid (¬(K=k/\G=_)->∀i,i<j+1->D i):=J (λhn i hi=>by
     obtain h1|rfl:=pX.1 hi
     exact z i h1
     ·rw[Z E];simp only[<-p];exact hn)
    replace z:=J z;replace p:=J p;have i1:(0:Int)<=(j:Int):=by omega
    have i2:(j:Int)<7:=by omega
    have d0:(wr.alloc (.cells #[.int .i64 K,.bool G,.int .u8 H,.slice I PN PN] 317)).cell? ⟨w.heap.size,0,none⟩=some (.int .i64 k):=by
     rw[World.cell?_alloc_past _ _ _ (aY.1 b1).1];simp[World.cell?,b1]
    replace b1:=J b1;by_cases u:K=k
    ·have eK:(K==k)=true:=by simp[u]
     replace u:=J u;have x:(wr.alloc (.cells #[.int .i64 K,.bool G,.int .u8 H,.slice I PN PN] 317)).heap[w.heap.size+1]?=some (.cells #[.int .i64 0,.bool false,.int .u8 0,.slice none 0 0] 317 (0,0)):=(fj _ _ _ (aY.1 b2).1).trans b2;have M:=(jo x).1;have N:=(jo x).2.1;have z2:=(jo x).2.2.1;have O:=(jo x).2.2.2.1;have zf:=(jo x).2.2.2.2;replace x:=J x;replace b2:=J b2;cases G;all_goals
      first
      |(go_wp2_with fail
        go_roundw
        case rel=>exact⟨j+1,by omega,by simp,Z al (λh=>by have:=h.2;revert this;decide),ba U _⟩
        case measure=>simp[intOf];omega)
      |(go_wp2_with fail
        first
         |(refine cA (v:=.tuple #[.agg #[.int .i64 K,.bool false,.int .u8 H,.slice I PN PN],.bool true]) ?_ rfl ?_
           ·simp[results,results191,go_sem,M,N,z2,O]
           ·rw[Z r];exact⟨.inl ⟨j,V,by rw[<-Z p];exact Z u,by rw[<-Z p],by rw[<-Z p]⟩,aI (aI (aI (aI (ba F _) _ _ (.inl (b9 _))) _ _ (.inl (b9 _))) _ _ (.inl (b9 _))) _ _ (.inl (b9 _))⟩)
         |(refine cA (v:=.tuple #[.agg #[.int .i64 K,.bool true,.int .u8 H,.slice I PN PN],.bool true]) ?_ rfl ?_
           ·simp[results,results191,go_sem,M,N,z2,O]
           ·rw[Z r];exact⟨.inl ⟨j,V,by rw[<-Z p];exact Z u,by rw[<-Z p],by rw[<-Z p]⟩,aI (aI (aI (aI (ba F _) _ _ (.inl (b9 _))) _ _ (.inl (b9 _))) _ _ (.inl (b9 _))) _ _ (.inl (b9 _))⟩))
    have eK:(K==k)=false:=by simp[u]
    replace b2:=J b2;go_wp2_with fail;go_roundw;case rel=>exact⟨j+1,by omega,by simp,Z al (λh=>u h.1),ba U _⟩
    case measure=>simp[intOf];omega
   obtain rfl:j=7:=by omega
   have M:=(jo b2).1
   have N:=(jo b2).2.1
   have z2:=(jo b2).2.2.1
   have O:=(jo b2).2.2.2.1
   have zf:=(jo b2).2.2.2.2
   replace b1:=J b1
   replace b2:=J b2
   replace z:=J z
   go_wp2_with fail
   refine cA (v:=.tuple #[.agg #[.int .i64 0,.bool false,.int .u8 0,.slice none 0 0],.bool false]) ?_ rfl ?_
   ·simp[results,results191,go_sem,M,N,z2,O]
   rw[Z r]
   refine⟨.inr ⟨λi hi=>?_,rfl⟩,aI (aI (aI (aI F _ _ (.inl (b9 _))) _ _ (.inl (b9 _))) _ _ (.inl (b9 _))) _ _ (.inl (b9 _))⟩
   have:=Z z i hi
   rw[Z E]at this
   exact this
def mn(l:List Fr)(i:Nat):Fr:=l.getD i (cu 0 false)
def qp(w:World)(a:Option Addr)(n cap:Nat)(c:List Fr):Prop:=
 n=c.length/\n<=cap/\cap<=maxLen/\((a=none/\cap=0)\/∃b o,a=some ⟨b,o,none⟩/\∀i,i<c.length->∃d,dr w (mn c i) d/\w.rangeAt b (o+i*7) (jT (mn c i) d))
theorem qp.ao{d:List Fr}(h:qp w a n k d)(g:w.grownBy W none):qp W a n k d:=by
 obtain⟨e,f,j,c⟩:=h;refine⟨e,f,j,?_⟩
 obtain c|⟨b,o,rfl,c⟩:=c
 exact .inl c;refine .inr ⟨b,o,rfl,λi hi=>?_⟩;obtain⟨l,m,p⟩:=c i hi;exact⟨l,m.ao g,iX p g (by simp)⟩
theorem qp.at{a:List Fr}(h:qp w (some ⟨b,o,none⟩) n k a)(i:Nat)(hi:i<a.length):∃c,dr w (mn a i) c/\w.rangeAt b (o+i*7) (jT (mn a i) c):=by
 obtain⟨-,-,-,⟨h,-⟩|⟨d,f,e,h⟩⟩:=h;cases h;cases e;exact h i hi
theorem Br{l:List Fr}(h:j<l.length):mn l j=l[j]:=by unfold mn;rw[List.getD,eD h];rfl
theorem Bt(l r:List Fr):fL (l++r)=fL l+fL r:=by
 induction l with
 |nil=>simp[fL]
 |cons f l a=>simp only[qa,fL,a];omega
theorem IF{l:List Fr}(h:j<l.length):fL (l.take j)+lL (mn l j)<=fL l:=by
 have a:=fm fL (oQ (j+1) l);rw[Bt,ry h,Bt]at a;simp only[fL]at a;rw[Br h];omega
theorem IG(h:∀j,j<7->¬((bE (bX n i l m o) j).k=G.kind/\(bE (bX n i l m o) j).fin=(G.fin&&decide (G.kind=5)))):¬(1<=G.kind/\G.kind<=6):=by
 intro b;have e:G.kind=1\/G.kind=2\/G.kind=3\/G.kind=4\/G.kind=5\/G.kind=6:=by omega
 obtain e|e|e|e|e|e:=e
 exact h 0 (by omega) (by rw[e];simp[bE,bX]);exact h 1 (by omega) (by rw[e];simp[bE,bX]);exact h 2 (by omega) (by rw[e];simp[bE,bX]);exact h 3 (by omega) (by rw[e];simp[bE,bX]);cases a:G.fin;exact h 4 (by omega) (by rw[e,a];simp[bE,bX]);exact h 5 (by omega) (by rw[e,a];simp[bE,bX]);exact h 6 (by omega) (by rw[e];simp[bE,bX])
theorem IH(a:j<7)(b:(bE (bX n i l m o) j).k=G.kind):1<=G.kind/\G.kind<=6:=by
 rw[<-b];obtain rfl|rfl|rfl|rfl|rfl|rfl|rfl:=qo a<;>simp[bE,bX]
theorem II{d g:Nat}(h:jF W l m o b k i d g)(r:dr W G x)(hs:cU G)(y:j<7)(f:(bE (bX m o b k i) j).k=G.kind)(p:(bE (bX m o b k i) j).fin=(G.fin&&decide (G.kind=5))):
 ∃w,Bl W G x (.slice (bE (bX m o b k i) j).pa (bE (bX m o b k i) j).n (bE (bX m o b k i) j).n) w/\da G=(bE (bX m o b k i) j).t::ik w/\W8 (bE (bX m o b k i) j).t:=by
 obtain⟨⟨b1,b2,s,u⟩,⟨z,A⟩,-,-⟩:=hs;have v:dS G.offset:=⟨r.1.2.2.1.1,b1⟩
 have vc:dS G.code:=⟨r.1.2.2.2.1.1,b2⟩
 obtain rfl|rfl|rfl|rfl|rfl|rfl|rfl:=qo y
 have a:G.kind=1:=f.symm;exact⟨[],⟨none,0,rfl,by simp,by simp,.inl rfl⟩,by simp[da,a,ik,bE,bX],by simp[W8,bE,bX]⟩
 have a:G.kind=2:=f.symm;exact⟨[],⟨none,0,rfl,by simp,by simp,.inl rfl⟩,by simp[da,a,ik,bE,bX],by simp[W8,bE,bX]⟩
 have a:G.kind=3:=f.symm;refine⟨[fS G.ranges],⟨some ⟨m,0,none⟩,1,rfl,by simp,by simp,.inr ⟨m,rfl,λc hi=>?_⟩⟩,by simp[da,a,ik,bE,bX],by simp[W8,bE,bX]⟩
 obtain rfl:c=0:=by simpa using hi
 exact⟨rW,_,_,h.p2 0 _ rfl,h.p2 1 _ rfl,Iv W G x r (z a)⟩
 have a:G.kind=4:=f.symm;refine⟨[aR G.stream,aR G.code,aR G.offset],⟨some ⟨o,0,none⟩,3,rfl,by simp,by simp,.inr ⟨o,rfl,λc hi=>?_⟩⟩,by simp[da,a,ik,bE,bX],by simp[W8,bE,bX]⟩
 have e:c=0\/c=1\/c=2:=by simp at hi;omega
 obtain rfl|rfl|rfl:=e
 exact⟨sW,_,_,h.p3 0 _ rfl,h.p3 1 _ rfl,yi W G x s u⟩
 exact⟨nW g,_,_,h.p3 2 _ rfl,h.p3 3 _ rfl,Bi W G x g h.bc vc⟩
 exact⟨nW d,_,_,h.p3 4 _ rfl,h.p3 5 _ rfl,yg W G x d h.bo v⟩
 have a:G.kind=5:=f.symm;have q:G.fin=false:=by rw[a]at p;simpa [bE,bX]using p.symm
 refine⟨[aR G.stream,aR G.offset,aR G.data.size++aG G.data],⟨some ⟨b,0,none⟩,3,rfl,by simp,by simp,.inr ⟨b,rfl,λc hi=>?_⟩⟩,by simp[da,a,q,ik,bE,bX],by simp[W8,bE,bX]⟩
 have e:c=0\/c=1\/c=2:=by simp at hi;omega
 obtain rfl|rfl|rfl:=e
 exact⟨sW,_,_,h.p4 0 _ rfl,h.p4 1 _ rfl,yi W G x s u⟩
 exact⟨nW d,_,_,h.p4 2 _ rfl,h.p4 3 _ rfl,yg W G x d h.bo v⟩
 exact⟨bW,_,_,h.p4 4 _ rfl,h.p4 5 _ rfl,Bj W G x⟩
 have a:G.kind=5:=f.symm;have q:G.fin=true:=by rw[a]at p;simpa [bE,bX]using p.symm
 refine⟨[aR G.stream,aR G.offset,aR G.data.size++aG G.data],⟨some ⟨k,0,none⟩,3,rfl,by simp,by simp,.inr ⟨k,rfl,λc hi=>?_⟩⟩,by simp[da,a,q,ik,bE,bX],by simp[W8,bE,bX]⟩
 have e:c=0\/c=1\/c=2:=by simp at hi;omega
 obtain rfl|rfl|rfl:=e
 exact⟨sW,_,_,h.p5 0 _ rfl,h.p5 1 _ rfl,yi W G x s u⟩
 exact⟨nW d,_,_,h.p5 2 _ rfl,h.p5 3 _ rfl,yg W G x d h.bo v⟩
 exact⟨bW,_,_,h.p5 4 _ rfl,h.p5 5 _ rfl,Bj W G x⟩
 have a:G.kind=6:=f.symm;refine⟨[aR G.code],⟨some ⟨i,0,none⟩,1,rfl,by simp,by simp,.inr ⟨i,rfl,λc hi=>?_⟩⟩,by simp[da,a,ik,bE,bX],by simp[W8,bE,bX]⟩
 obtain rfl:c=0:=by simpa using hi
 exact⟨nW g,_,_,h.p6 0 _ rfl,h.p6 1 _ rfl,Bi W G x g h.bc vc⟩
def tH(a:List Fr):Prop:=0<a.length/\∀i,i<a.length->cU (mn a i)
def IJ(w:World)(a:List Fr)(bad:Value)(g:Value->Value)(e:Ending)(b:World):Prop:=
 ((tH a/\∃c d f,e=.returned (g (.slice c d f))/\bm b w.heap.size (.slice c d f) (bw a))\/(¬tH a/\e=.returned bad))/\w.grownBy b none
theorem bm.Bu(h:bm w n x L)(e:k<=n):bm w k x L:=by
 obtain⟨b,c,a⟩:=h;refine⟨b,c,?_⟩
 obtain a|⟨g,cap,cur,e1,e2,d⟩:=a
 exact .inl a;exact .inr ⟨g,cap,cur,e1,by omega,d⟩
theorem Bv:(prog.info? 158).map (·.size)=some 7:=by kernel_rfl
theorem IK:(prog.info? 317).map (·.size)=some 4:=by kernel_rfl
theorem IL(w:World)(a:Option Addr)(n cap:Nat)(c:List Fr)(h:qp w a n cap c)(db:fL c<=30000000):
 Calls prog 147 #[.slice a n cap] w (IJ w c (.tuple #[.slice none 0 0,.iface 34 (.int .i64 5)]) (λv=>.tuple #[v,.nilIface])):=by
 have l:=h.1;have eS:=h.2.1;have de:=h.2.2.1;unfold maxLen at de;by_cases h0:n=0
 ·have e0:((n:Int)==0)=true:=by simp[h0]
  have bb:¬tH c:=λm=>by have:=m.1;omega
  replace bb:=J bb;clear h h0;go_enter func147,ntmps147;go_wp2_with fail;go_ret2;exact⟨.inr ⟨Z bb,rfl⟩,aB _ _⟩
 have e0:((n:Int)==0)=false:=by simp[h0]
 obtain⟨b,o,rfl⟩:∃b o,a=some ⟨b,o,none⟩:=by
  obtain⟨-,-,-,⟨rfl,hc⟩|⟨b,o,rfl,-⟩⟩:=h;omega;exact⟨b,o,rfl⟩
 replace l:=J l;go_enter func147,ntmps147;go_wp2_with fail;refine(Bq w).mono ?_;rintro e A⟨T,B,C,D,E,F,Bo,Bc,rfl,hT,M⟩;have h1:=h.ao M;go_wp2_with fail;go_loopw [4,17] (λv i wr=>∃(j:Nat)(R:Option Addr)(U V:Nat),j<=n/\i=.int .i64 (j:Int)/\v=.slice R U V/\dB A A.heap.size (.slice none 0 0) wr v (bw (c.take j))/\∀i,i<j->cU (mn c i)) (λ_ i _=>n-(intOf i).toNat);case atStart=>exact⟨0,none,0,0,by omega,rfl,rfl,dB.refl (bm.nil _ _),λi hi=>by omega⟩
 case round=>
  obtain⟨j,R,U,V,hj,rfl,rfl,r,X⟩:=hrel;have u:=r.iM (aB _ _) (bm.nil _ _) (aP _);by_cases e5:j<n
  ·obtain⟨rv,N,cx⟩:=h1.at j (by have:=Z l;omega);have p:=iX cx u (by simp);obtain⟨f,q⟩:=exq (mn c j);rw[<-q]at N p;clear cx;obtain⟨-,-,ra,x,cy,-⟩:=id N;generalize dn:f.ranges.length=rl at cy;subst cy;have Y:=λW(g:A.grownBy W none)=>IE W T B C D E F Bo Bc (hT.ao g) f (.slice ra rl x)
   have al:=λW(g:A.grownBy W none)=>Ao f (.slice ra rl x) W (N.ao g)
   have ax:=λ(bt:List (List Int))(k0:Int)(du:Bool)(t:Int)(pv:Value)=>Iz A f (.slice ra rl x) pv bt k0 du t
   have bx:=λ(hs:cU f)(i:Nat)(hi:i<7)=>II hT N hs hi
   have bz:=λ(i:Nat)(hi:i<7)=>IH (G:=f) (n:=B) (i:=C) (l:=D) (m:=E) (o:=F) hi
   have bM:=IG (G:=f) (n:=B) (i:=C) (l:=D) (m:=E) (o:=F);have b0:fL (c.take j)+lL f<=fL c:=by rw[q];exact IF (by have:=Z l;omega)
   have b3:=uS f;have b4:=Fi (c.take j);have b5:lL f=25+16*f.ranges.length+f.data.size:=rfl;have b6:bw (c.take (j+1))=bw (c.take j)++da f:=by rw[Fh c j (by have:=Z l;omega),q,Br (by have:=Z l;omega)]
   generalize bX B C D E F=L at *;clear hT N dn;obtain⟨k,s,O,cd,fin,d,rg⟩:=f;have c0:wr.cell? ⟨b,o+j*7,none⟩=some (.int .i64 k):=p 0 _ rfl;have c1:wr.cell? ⟨b,o+j*7+1,none⟩=some (.int .i64 s):=p 1 _ rfl;have c2:wr.cell? ⟨b,o+j*7+2,none⟩=some (.int .u64 O):=p 2 _ rfl;have c3:wr.cell? ⟨b,o+j*7+3,none⟩=some (.int .u64 cd):=p 3 _ rfl;have c4:wr.cell? ⟨b,o+j*7+4,none⟩=some (.bool fin):=p 4 _ rfl;have c5:wr.cell? ⟨b,o+j*7+5,none⟩=some (.string d):=p 5 _ rfl;have c6:wr.cell? ⟨b,o+j*7+6,none⟩=some (.slice ra rl x):=p 6 _ rfl;clear p;simp only[bP]at Y al ax;have i1:(0:Int)<=(j:Int):=by omega
   have i2:(j:Int)<(n:Int):=by omega
   have cC:Hid ((wr.alloc (.cells #[.int .i64 k,.int .i64 s,.int .u64 O,.int .u64 cd,.bool fin,.string d,.slice ra rl x] 158)).heap[wr.heap.size]?=some (.cells #[.int .i64 k,.int .i64 s,.int .u64 O,.int .u64 cd,.bool fin,.string d,.slice ra rl x] 158 (0,0))):=J (aM _ _);have dE:=J db;replace Y:=J Y;replace al:=J al;replace ax:=J ax;replace bx:=J bx;replace bz:=J bz;replace bM:=J bM;replace X:=J X;replace r:=J r;replace u:=J u;replace q:=J q;replace b0:=J b0;replace b3:=J b3;replace b4:=J b4;replace b5:=J b5;replace b6:=J b6;replace h1:=J h1;replace h:=J h;have dG:=J Bv;have ea:=J IK;obtain⟨WB,G⟩:=exq (wr.alloc (.cells #[.int .i64 k,.int .i64 s,.int .u64 O,.int .u64 cd,.bool fin,.string d,.slice ra rl x] 158));have P:Hid (wr.grownBy WB none):=J (by rw[G];exact aH _ _ _);have e9:WB.heap.size=wr.heap.size+1:=by rw[G];simp
   rw[<-G]at cC;go_wp2_with fail;rw[<-G];replace G:=J G;clear c0 c1 c2 c3 c4 c5 c6;refine(Z Y WB (aq (Z u) (Z P))).mono ?_;rintro e H⟨⟨i,hi,m,hq,rfl⟩|⟨c9,rfl⟩,g3⟩
   ·have hp:=λhs=>Z bx hs i hi m hq
    have a0:=Z bz i hi m;generalize bE L i=S at *;obtain⟨K,FN,TT,PA,PN⟩:=S;simp only at m hq hp a0;obtain⟨W4,y⟩:=exq (H.alloc (.cells #[.int .i64 K,.bool FN,.int .u8 TT,.slice PA PN PN] 317));have g4:H.grownBy W4 none:=by rw[y];exact aH _ _ _
    have cp:W4.heap[H.heap.size]?=some (.cells #[.int .i64 K,.bool FN,.int .u8 TT,.slice PA PN PN] 317 (0,0)):=by rw[y];exact aM _ _
    have fa:W4.heap.size=H.heap.size+1:=by rw[y];simp
    have a2:=aq g3 g4;have a3:=(a2.block wr.heap.size (by omega) (by simp)).trans (Z cC);have a4:=aq (aq (Z u) (Z P)) a2;obtain⟨d0,d1,d2,d3,d4,d5,d6⟩:=cH a3;rw[y]at d0 d1 d2 d3 d4 d5 d6;have fb:=g3.size;replace hp:=J hp;replace a0:=J a0;replace m:=J m;replace hq:=J hq;replace cp:=J cp;replace a3:=J a3;go_wp2_with fail;rw[<-y];replace y:=J y;clear d0 d1 d2 d3 d4 d5 d6;refine(Z al W4 a4).mono ?_;rintro e w5⟨⟨bo,rfl,Q⟩,z⟩;have ei:=J ((z.block H.heap.size (by omega) (by simp)).trans (Z cp));have ej:=J ((z.block wr.heap.size (by omega) (by simp)).trans (Z a3));replace Q:=J Q;cases bo
    ·go_wp2_with fail;go_ret2;refine⟨.inr ⟨λm=>?_,rfl⟩,aq M (aq a4 z)⟩
     have I:=m.2 j (by have:=Z l;omega);rw[<-Z q]at I;have:=(Z Q).2 ⟨I.1,I.2.1⟩;cases this
    have a8:cU ⟨k,s,O,cd,fin,d,rg⟩:=⟨((Z Q).1 rfl).1,((Z Q).1 rfl).2,Z a0⟩
    obtain⟨bt,hP,a9,ek⟩:=Z hp a8;have hC:=Z ax bt K FN TT (.slice PA PN PN) ek hP w5 A.heap.size R U V (bw (c.take j)) (aq a4 z) (aP _) (aq a4 z).size ((Z r).still (aq (Z P) (aq a2 z))).own (by
     have q1:=Z b0;have q2:=Z b3;have q3:=Z b4;have q4:=Z b5;rw[a9,dq]at q2;try dsimp only at q4
     try dsimp only
     have q5:=Z dE;omega)
    replace hC:=J hC;replace a9:=J a9;replace a8:=J a8;replace hP:=J hP;go_wp2_with (first
     |(refine oS (by rfl) 317 _ (by rfl) H.heap.size (by rfl) 317 _ (0,0) _ (Z ei) underlying317 (by rfl) (Z ea) ?_)
     |(refine oS (by rfl) 158 _ (by rfl) wr.heap.size (by rfl) 158 _ (0,0) _ (Z ej) underlying158 (by rfl) (Z dG) ?_))
    refine(Z hC).mono ?_;rintro e w6⟨a6,n6,c6,rfl,G6⟩;go_wp2_with fail;go_roundw;case rel=>
     refine⟨j+1,a6,n6,c6,by omega,by simp,rfl,?_,λi hi=>?_⟩
     rw[Z b6,Z a9];exact((Z r).still (aq (Z P) (aq a2 z))).trans G6;obtain h9|rfl:=pX.1 hi
     exact Z X i h9;rw[<-Z q];exact Z a8
    case measure=>simp[intOf];omega
   have eL:=J (Z bM c9);clear c9;go_wp2_with fail;go_ret2;refine⟨.inr ⟨λm=>?_,rfl⟩,aq M (aq (aq (Z u) (Z P)) (ba g3 _))⟩
   have I:=m.2 j (by have:=Z l;omega);rw[<-Z q]at I;exact Z eL I.2.2
  obtain rfl:j=n:=by omega
  go_wp2_with fail;go_ret2;refine⟨.inl ⟨⟨by have:=Z l;omega,λi hi=>X i (by have:=Z l;omega)⟩,R,U,V,rfl,?_⟩,aq M u⟩
  rw[fJ (by have:=Z l;omega)]at r;exact r.own.Bu M.size
theorem vR:prog.elem 133=200:=by kernel_rfl
theorem Cm(W:World):(sizeOf 200).run prog W=.ok 2 W:=by kernel_rfl
theorem bu.head(h:bu w a n k X)(i:Nat)(hi:i<=n):bu w a i k (X.take i):=by
 have d:=h.front i hi;obtain⟨p,q,r,f,c⟩:=h;obtain⟨f1,f2,f3,f4,f5⟩:=d;refine⟨f1,f2,by omega,f,?_⟩
 obtain c|⟨b,o,rfl,c⟩:=c
 exact .inl c;obtain f5|⟨g,l,e,f5⟩:=f5
 refine .inr ⟨b,o,rfl,?_⟩;have:X.take i=[]:=iF (by omega);rw[this];intro j v m;simp[cz]at m;exact .inr ⟨g,l,e,f5⟩
theorem yE(h:iI X)(i:Nat)(hi:0<i)(hl:i<=X.length):iI (X.take i):=by
 have e:∀k,k<i->au (X.take i) k=au X k:=λk a=>by simp[au,List.getD,jA,a]
 refine⟨by rw[ct];omega,λk a=>?_⟩
 rw[ct]at a;have:=h.2 k (by omega);unfold mT at *;rw[e k (by omega)];refine⟨this.1,this.2.1,λh0=>?_⟩
 rw[e (k-1) (by omega)];exact this.2.2 h0
theorem Cn(l:List Rg)(h:0<l.length):(fS (l.take 1)).length<=24:=by
 unfold fS lK;have e:(l.take 1).length=1:=by rw[ct];omega
 rw[e];simp only[rE,jB,ot,bH]
 have:=(gJ (au (l.take 1) 0).hi).2;have:=(gJ (((1:Nat):Int)-1)).2;have:=(gJ ((au (l.take 1) 0).hi-(au (l.take 1) 0).lo)).2;omega
def j6(l:List Rg)(a:Int):Nat->Nat
 |0=>0
 |m+1=>if a<1+((fS (l.take (m+1))).length:Int)then j6 l a m else m+1
theorem Kp(w:World)(a:Option Addr)(n cap:Nat)(l:List Rg)(hs:bu w a n cap l)(p:iI l)(C:n<=1000)(b:Int)(D:40<=b/\b<=1000):
 Calls prog 202 #[.slice a n cap,.int .i64 b] w λe d=>(∃m:Nat,e=.returned (.int .i64 (m:Int))/\m=j6 l b n/\1<=m/\m<=n/\1+((fS (l.take m)).length:Int)<=b)/\w.grownBy d none:=by
 obtain⟨R,h⟩:∃R:Ending->Prop,R=λe=>∃m:Nat,e=.returned (.int .i64 (m:Int))/\m=j6 l b n/\1<=m/\m<=n/\1+((fS (l.take m)).length:Int)<=b:=⟨_,rfl⟩
 have r:(λ(e:Ending)(d:World)=>(∃m:Nat,e=.returned (.int .i64 (m:Int))/\m=j6 l b n/\1<=m/\m<=n/\1+((fS (l.take m)).length:Int)<=b)/\w.grownBy d none)=λe d=>R e/\w.grownBy d none:=by rw[h]
 rw[r];clear r;have f:n=l.length:=hs.2.1;have E:=hs.2.2.1;have F:=p.1;have x:=hs.2.2.2.1;unfold maxLen at x;replace f:=J f;replace h:=J h;go_enter func202,ntmps202;go_wp2_with fail;go_loopw [5] (λk wr=>∃m:Nat,1<=m/\m<=n/\k=.int .i64 (m:Int)/\j6 l b m=j6 l b n/\w.grownBy wr none) (λk _=>(intOf k).toNat);case atStart=>exact⟨n,by have:=Z f;omega,aP _,rfl,rfl,aB _ _⟩
 case round=>
  obtain⟨m,s,t,rfl,i,g⟩:=hrel;replace i:=J i;have d0:decide ((0:Int)<(m:Int))=true:=bK (by omega);have y:=hs.head m t;have G:(m:Int)<=(cap:Int):=by omega
  have u:=J (Be w wr wr.heap.size none 0 [] a m cap (l.take m) (bm.nil _ _) g g.size y (yE p m s (by have:=Z f;omega)) (aP _) (by rw[ct];simp;omega));simp only[fB,jQ]at u;obtain⟨L,c⟩:=exq ((fS (l.take m)).length);have z:Hid (m=1->L<=24):=J (λe=>by rw[c,e];exact Cn l (by have:=Z f;omega));have H:L<=1000000:=by
   rw[c];unfold fS lK;have:=xu (l.take m) ((l.take m).length-1);have:=(gJ (au (l.take m) 0).hi).2;have:=(gJ (((l.take m).length:Int)-1)).2;have:=(gJ ((au (l.take m) 0).hi-(au (l.take m) 0).lo)).2;simp only[bH]
   rw[ct]at *;omega
  have I:IntKind.i64.wrap (1+(L:Int))=1+(L:Int):=by simp[IntKind.wrap,IntKind.bits,IntKind.signed];omega
  replace c:=J c;go_wp2_with (first|(go_at_call 238;refine(Z u).mono ?_;rintro e A⟨K,n2,c2,rfl,j⟩;have v:wr.grownBy A none:=j.gb;obtain rfl:n2=L:=(j.gI.2.1).trans (Z c).symm;replace j:=J j));have M:m≠1:=λe=>by have:=Z z e;omega
  have B:j6 l b (m-1)=j6 l b n:=by
   rw[<-Z i];obtain⟨q,rfl⟩:∃q,m=q+1:=⟨m-1,by omega⟩
   show j6 l b q=if b<1+((fS (l.take (q+1))).length:Int)then j6 l b q else q+1
   rw[<-Z c,az (by omega)]
  exact⟨⟨m-1,by omega,by omega,by congr 1;omega,B,aq g v⟩,by simp[intOf];omega⟩
  go_ret;refine⟨?_,aq g v⟩
  rw[Z h];refine⟨m,rfl,?_,s,t,by rw[<-Z c];omega⟩
  rw[<-Z i];obtain⟨q,rfl⟩:∃q,m=q+1:=⟨m-1,by omega⟩
  show q+1=if b<1+((fS (l.take (q+1))).length:Int)then j6 l b q else q+1
  rw[<-Z c,ah (by omega)]
def Lq(w:World)(L:List Sh)(t:Int)(e:Ending)(a:World):Prop:=
 ((∃j,j<7/\(bE L j).t=t/\e=.returned (.tuple #[.agg #[.int .i64 (bE L j).k,.bool (bE L j).fin,.int .u8 (bE L j).t,.slice (bE L j).pa (bE L j).n (bE L j).n],.bool true]))\/
   ((∀j,j<7->¬(bE L j).t=t)/\e=.returned (.tuple #[.agg #[.int .i64 0,.bool false,.int .u8 0,.slice none 0 0],.bool false])))/\w.grownBy a none
theorem Lr(w:World)(T h k l m n E F:Nat)(y:jF w T h k l m n E F)(t:Int):
 Calls prog 232 #[.slice (some ⟨T,0,none⟩) 7 7,.int .u8 t] w (Lq w (bX h k l m n) t):=by
 have p:=λ(W:World)(g:w.grownBy W none)=>(y.ao g).at
 generalize bX h k l m n=L at *;clear y;obtain⟨z,b⟩:=exq (w.alloc (.cells #[.int .i64 0,.bool false,.int .u8 0,.slice none 0 0] 317));have q:∀W:World,z.grownBy W none->W.heap[w.heap.size]?=some (.cells #[.int .i64 0,.bool false,.int .u8 0,.slice none 0 0] 317 (0,0))/\w.grownBy W none:=λW g=>
  ⟨(g.block _ (by rw[b];simp) (by simp)).trans (by rw[b];exact aM _ _),aq (by rw[b];exact aH _ _ _) g⟩
 replace q:=J q;replace p:=J p;go_enter func232,ntmps232;go_wp2_with fail;rw[<-b];replace b:=J b;go_loopw [10] (λi wr=>∃j:Nat,j<=7/\i=.int .i64 (j:Int)/\(∀i,i<j->¬(bE L i).t=t)/\z.grownBy wr none) (λi _=>7-(intOf i).toNat);case atStart=>exact⟨0,by omega,rfl,λi hi=>by omega,aB _ _⟩
 case round=>
  obtain⟨j,O,rfl,c,A⟩:=hrel;obtain⟨b2,r⟩:=Z q wr A;by_cases B:j<7
  ·obtain⟨c1,c2,c3,c4⟩:=Z p wr r j B;obtain⟨S,d⟩:=exq (bE L j);rw[<-d]at c1 c2 c3 c4;obtain⟨K,C,e,D,PN⟩:=S;simp only at c1 c2 c3 c4;have G:Hid (¬e=t->∀i,i<j+1->¬(bE L i).t=t):=J (λH i hi=>by
    obtain I|rfl:=pX.1 hi
    exact c i I
    ·rw[<-d];exact H)
   replace c:=J c;replace d:=J d;have P:(0:Int)<=(j:Int):=by omega
   have Q:(j:Int)<7:=by omega
   by_cases f:e=t
   ·have M:(e==t)=true:=by simp[f]
    replace f:=J f;have a:(wr.alloc (.cells #[.int .i64 K,.bool C,.int .u8 e,.slice D PN PN] 317)).heap[w.heap.size]?=some (.cells #[.int .i64 0,.bool false,.int .u8 0,.slice none 0 0] 317 (0,0)):=(fj _ _ _ (aY.1 b2).1).trans b2;have s:=(jo a).1;have u:=(jo a).2.1;have z2:=(jo a).2.2.1;have x:=(jo a).2.2.2.1;have N:=(jo a).2.2.2.2;replace a:=J a;replace b2:=J b2;go_wp2_with fail;refine cA (v:=.tuple #[.agg #[.int .i64 K,.bool C,.int .u8 e,.slice D PN PN],.bool true]) ?_ rfl ?_
    ·simp[results,results232,go_sem,s,u,z2,x]
    exact⟨.inl ⟨j,B,by rw[<-Z d];exact Z f,by rw[<-Z d]⟩,aI (aI (aI (aI (ba r _) _ _ (.inl (aP _))) _ _ (.inl (aP _))) _ _ (.inl (aP _))) _ _ (.inl (aP _))⟩
   have M:(e==t)=false:=by simp[f]
   replace b2:=J b2;go_wp2_with fail;go_roundw;case rel=>exact⟨j+1,by omega,by simp,Z G f,ba A _⟩
   case measure=>simp[intOf];omega
  obtain rfl:j=7:=by omega
  have s:=(jo b2).1;have u:=(jo b2).2.1;have z2:=(jo b2).2.2.1;have x:=(jo b2).2.2.2.1;have N:=(jo b2).2.2.2.2;replace b2:=J b2;replace c:=J c;go_wp2_with fail;refine cA (v:=.tuple #[.agg #[.int .i64 0,.bool false,.int .u8 0,.slice none 0 0],.bool false]) ?_ rfl ?_
  ·simp[results,results232,go_sem,s,u,z2,x]
  exact⟨.inr ⟨Z c,rfl⟩,aI (aI (aI (aI r _ _ (.inl (aP _))) _ _ (.inl (aP _))) _ _ (.inl (aP _))) _ _ (.inl (aP _))⟩
theorem wO(A C:List Int)(k:Nat):(A++C).getD (A.length+k) 0=C.getD k 0:=by
 simp[List.getD,jz]
theorem pT(A C:List Int):(A++C).getD A.length 0=C.getD 0 0:=wO A C 0
theorem OL(A B:List Int)(h:dS p):cN (A++(aR p++B)) A.length=some (p,A.length+(aR p).length):=by
 unfold dS at h;unfold cN;by_cases b:p<64;have a:aR p=[p]:=by simp[aR,b]
 rw[a,pT];have hs:eY (([p]++B).getD 0 0)=1:=by
  simp only[eY,qa,xj]
  rw[az (by omega)]
 rw[hs,az (by simp)];simp only[iY,rE,pT]
 simp;omega;by_cases c:p<16384;have a:aR p=[p/256+64,p %256]:=by simp[aR,b,c]
 rw[a,pT];have hs:eY (([p/256+64,p %256]++B).getD 0 0)=2:=by
  simp only[eY,qa,xj]
  rw[ah (by omega),az (by omega)]
 rw[hs,az (by simp)];simp only[iY,qc,Nat.reduceAdd,Nat.reduceSub,wO,pT]
 simp;omega;by_cases d:p<1073741824;have a:aR p=[p/16777216+128,p/65536 %256,p/256 %256,p %256]:=by simp[aR,b,c,d]
 rw[a,pT];have hs:eY (([p/16777216+128,p/65536 %256,p/256 %256,p %256]++B).getD 0 0)=4:=by
  simp only[eY,qa,xj]
  rw[ah (by omega),ah (by omega),az (by omega)]
 rw[hs,az (by simp)];simp only[iY,qc,Nat.reduceAdd,Nat.reduceSub,wO,pT]
 simp;omega;have a:aR p=[p/72057594037927936+192,p/281474976710656 %256,p/1099511627776 %256,p/4294967296 %256,p/16777216 %256,p/65536 %256,p/256 %256,p %256]:=by simp[aR,b,c,d]
 rw[a,pT];have hs:eY (([p/72057594037927936+192,p/281474976710656 %256,p/1099511627776 %256,p/4294967296 %256,p/16777216 %256,p/65536 %256,p/256 %256,p %256]++B).getD 0 0)=8:=by
  simp only[eY,qa,xj]
  rw[ah (by omega),ah (by omega),ah (by omega)]
 rw[hs,az (by simp)];simp only[iY,qc,Nat.reduceAdd,Nat.reduceSub,wO,pT]
 simp;omega
theorem nY(a:L=K++(aR q++M))(hp:k=K.length)(h:dS q):cN L k=some (q,k+(aR q).length):=by
 subst a hp;exact OL K M h
def jf(l:List Rg):Nat->Nat->List Int
 |_,0=>[]
 |j,k+1=>tm l j++jf l (j+1) k
theorem OM(l:List Rg)(k:Nat):∀j,jB l (j+k)=jB l j++jf l j k:=by
 induction k with
 |zero=>intro j;simp[jf]
 |succ k a=>
  intro j;rw[show j+(k+1)=(j+1)+k by omega,a (j+1)];simp[jB,jf]
theorem Eb(h:i<X.length):au X i=X[i]:=by
 simp[au,List.getD,h]
theorem ON(f:∀r∈X,r.ok)(e:iI X)(B:List Int)(k:Nat):∀(j:Nat)(A:List Int),j+1+k=X.length->
 jC (A++(jf X j k++B)) k A.length (au X j).lo (X.take (j+1))=some (X,A.length+(jf X j k).length):=by
 induction k with
 |zero=>
  intro j A h;simp only[jC,jf,fB,ou,mf,qI,and_true]
  exact fJ (by omega)
 |succ k i=>
  intro j A h;have a:=oY f e j (by omega);have b:=oY f e (j+1) (by omega);have c:=e.2 (j+1) (by omega);unfold mT at c;simp only[rB]at c;unfold dS at a b;obtain⟨x,l⟩:=exq ((au X j).lo-(au X (j+1)).hi-2);obtain⟨y,m⟩:=exq ((au X (j+1)).hi-(au X (j+1)).lo);have d:jf X j (k+1)=aR x++(aR y++jf X (j+1) k):=by simp[jf,tm,l,m]
  have n:dS x:=by unfold dS;omega
  have p:dS y:=by unfold dS;omega
  have q:cN (A++(jf X j (k+1)++B)) A.length=some (x,A.length+(aR x).length):=nY (M:=aR y++jf X (j+1) k++B) (by rw[d];simp) rfl n;have n2:cN (A++(jf X j (k+1)++B)) (A.length+(aR x).length)=some (y,A.length+(aR x).length+(aR y).length):=nY (K:=A++aR x) (M:=jf X (j+1) k++B) (by rw[d];simp) (by simp) p;have e1:(au X j).lo-2-x=(au X (j+1)).hi:=by omega
  have e2:(au X (j+1)).hi-y=(au X (j+1)).lo:=by omega
  have s:A++(jf X j (k+1)++B)=(A++aR x++aR y)++(jf X (j+1) k++B):=by rw[d];simp
  have g:j+1<X.length:=by omega
  have t:X.take (j+1)++[au X (j+1)]=X.take (j+1+1):=by rw[ry g,Eb g]
  simp only[jC,q,n2,eV,e1,e2]
  rw[az (by omega)];have:=i (j+1) (A++aR x++aR y) (by omega);rw[<-s]at this;rw[t];simp only[bH]at this;rw[this,d];simp only[bH]
  congr 2;omega
theorem OO(g:∀r∈X,r.ok)(d:iI X)(hl:(X.length:Int)<=4611686018427387903)(e:L=K++(fS X++M))(hp:n=K.length):jD L n=some (X,n+(fS X).length):=by
 subst hp;have f:=d.1;have a:=oY g d 0 f;have c:=(d.2 0 f).1;unfold dS at a;obtain⟨x,h⟩:=exq ((au X 0).hi);obtain⟨y,i⟩:∃y:Int,y=(X.length:Int)-1:=⟨_,rfl⟩
 obtain⟨z,j⟩:=exq ((au X 0).hi-(au X 0).lo);have b:fS X=aR x++(aR y++(aR z++jf X 0 (X.length-1))):=by
  have:=OM X (X.length-1) 0;simp only[dR,jB,jQ]at this;simp[fS,lK,this,h,i,j]
 have k:cN L K.length=some (x,K.length+(aR x).length):=nY (K:=K) (M:=aR y++(aR z++jf X 0 (X.length-1))++M) (by rw[e,b];simp) rfl (by unfold dS;omega);have n2:cN L (K.length+(aR x).length)=some (y,K.length+(aR x).length+(aR y).length):=nY (K:=K++aR x) (M:=aR z++jf X 0 (X.length-1)++M) (by rw[e,b];simp) (by simp) (by unfold dS;omega);have l:cN L (K.length+(aR x).length+(aR y).length)=some (z,K.length+(aR x).length+(aR y).length+(aR z).length):=nY (K:=K++aR x++aR y) (M:=jf X 0 (X.length-1)++M) (by rw[e,b];simp) (by simp;omega) (by unfold dS;omega);have e1:x-z=(au X 0).lo:=by omega
 have e2:y.toNat=X.length-1:=by omega
 have m:L=(K++aR x++aR y++aR z)++(jf X 0 (X.length-1)++M):=by rw[e,b];simp
 have p:[(⟨(au X 0).lo,x⟩:Rg)]=X.take (0+1):=by
  rw[ry (by omega),h,Eb f];simp
 simp only[jD,k,n2,l,eV,e1,e2,p]
 rw[az (by omega)];have:=ON g d M (X.length-1) 0 (K++aR x++aR y++aR z) (by omega);rw[<-m]at this;simp only[bH]at this;rw[show K.length+(aR x).length+(aR y).length+(aR z).length=K.length+(aR x).length+(aR y).length+(aR z).length from rfl,this,b];simp only[bH]
 congr 2;omega
def gT(f:Fr):Fr:=
 if f.kind=1 then cu 1 false else if f.kind=2 then cu 2 false else if f.kind=3 then{cu 3 false with ranges:=f.ranges}
 else if f.kind=4 then{cu 4 false with stream:=f.stream,code:=f.code,offset:=f.offset}
 else if f.kind=5 then{cu 5 f.fin with stream:=f.stream,offset:=f.offset,data:=f.data}
 else{cu 6 false with code:=f.code}
theorem wQ(d:ByteArray):strOfNums (aG d)=d:=by
 apply ByteArray.ext;apply Array.toList_inj.1;rw[strOfNums_data,aG,s9];refine(xi (g:=id) λx _=>?_).trans (List.map_id _);simp
theorem Ec(a:L=K++(aR q++M))(hp:k=K.length)(h0:0<=q)(b:q<4):jR L k=some (q,k+(aR q).length):=by
 unfold jR;rw[nY a hp ⟨h0,by omega⟩];simp[b]
theorem OP{d:ByteArray}(a:L=K++(aR d.size++(aG d++M)))(hp:k=K.length)(hd:(d.size:Int)<=4611686018427387903):nH L k=some (d,k+(aR d.size).length+d.size):=by
 unfold nH;rw[nY (q:=d.size) a hp ⟨by omega,hd⟩];simp only[eV]
 have b:L.length=K.length+(aR d.size).length+d.size+M.length:=by rw[a];simp[fu];omega
 rw[az (by rw[b,hp];push_cast;omega)];have e:(L.drop (k+(aR d.size).length)).take d.size=aG d:=by
  rw[a,show K++(aR (d.size:Int)++(aG d++M))=(K++aR (d.size:Int))++(aG d++M) by simp,show k+(aR (d.size:Int)).length=(K++aR (d.size:Int)).length by simp[hp],List.drop_left,<-fu d,List.take_left]
 simp only[nE,e,wQ]
theorem OQ(u:G.ok)(hs:cU G)(hl:(G.ranges.length:Int)<=4611686018427387903)(i:L=K++(da G++M)):mU L K.length=some (gT G,K.length+(da G).length):=by
 obtain⟨⟨b1,b2,k,l⟩,⟨q,v⟩,y,z⟩:=id hs;obtain⟨A,B,⟨r,-⟩,⟨s,-⟩,w⟩:=u;have c:G.kind=1\/G.kind=2\/G.kind=3\/G.kind=4\/G.kind=5\/G.kind=6:=by omega
 have e0:L.getD K.length 0=(da G++M).getD 0 0:=by rw[i];exact pT K _
 unfold mU;rw[e0];obtain c|c|c|c|c|c:=c
 have a:da G=[0]:=by simp[da,c]
 have f:gT G=cu 1 false:=by simp[gT,c]
 rw[a,f];have e:cU (cu 1 false):=by simp[cU,oX,qh,cu]
 simp[fD,e];have a:da G=[1]:=by simp[da,c]
 have f:gT G=cu 2 false:=by simp[gT,c]
 rw[a,f];have e:cU (cu 2 false):=by simp[cU,oX,qh,cu]
 simp[fD,e];have a:da G=2::fS G.ranges:=by simp[da,c]
 have f:gT G={cu 3 false with ranges:=G.ranges}:=by simp[gT,c]
 have x:jD L (K.length+1)=some (G.ranges,K.length+1+(fS G.ranges).length):=OO (K:=K++[2]) (M:=M) w (q c) hl (by rw[i,a];simp) (by simp);rw[a,f];have e:cU {cu 3 false with ranges:=G.ranges}:=by
  refine⟨?_,⟨λ_=>q c,λh=>?_⟩,?_⟩<;>simp[oX,cu]at *
 simp[fD,x,e];omega;have a:da G=4::(aR G.stream++aR G.code++aR G.offset):=by simp[da,c]
 have f:gT G={cu 4 false with stream:=G.stream,code:=G.code,offset:=G.offset}:=by simp[gT,c]
 have g:=Ec (L:=L) (K:=K++[4]) (M:=aR G.code++(aR G.offset++M)) (q:=G.stream) (k:=K.length+1) (by rw[i,a];simp) (by simp) k l;have n2:=nY (L:=L) (K:=K++[4]++aR G.stream) (M:=aR G.offset++M) (q:=G.code) (k:=K.length+1+(aR G.stream).length) (by rw[i,a];simp) (by simp;omega) ⟨s,b2⟩;have j:=nY (L:=L) (K:=K++[4]++aR G.stream++aR G.code) (M:=M) (q:=G.offset) (k:=K.length+1+(aR G.stream).length+(aR G.code).length) (by rw[i,a];simp) (by simp;omega) ⟨r,b1⟩;rw[a,f];have e:cU {cu 4 false with stream:=G.stream,code:=G.code,offset:=G.offset}:=by
  refine⟨⟨b1,b2,k,l⟩,⟨λh=>?_,λh=>?_⟩,?_⟩<;>simp[cu]at *
 simp[fD,g,n2,j,e];omega;have hd:=v c;have g:=λt:Int=>λa:da G=t::(aR G.stream++aR G.offset++aR G.data.size++aG G.data)=>Ec (L:=L) (K:=K++[t]) (M:=aR G.offset++(aR G.data.size++(aG G.data++M))) (q:=G.stream) (k:=K.length+1) (by rw[i,a];simp) (by simp) k l
 have n2:=λt:Int=>λa:da G=t::(aR G.stream++aR G.offset++aR G.data.size++aG G.data)=>nY (L:=L) (K:=K++[t]++aR G.stream) (M:=aR G.data.size++(aG G.data++M)) (q:=G.offset) (k:=K.length+1+(aR G.stream).length) (by rw[i,a];simp) (by simp;omega) ⟨r,b1⟩
 have j:=λt:Int=>λa:da G=t::(aR G.stream++aR G.offset++aR G.data.size++aG G.data)=>OP (L:=L) (K:=K++[t]++aR G.stream++aR G.offset) (M:=M) (d:=G.data) (k:=K.length+1+(aR G.stream).length+(aR G.offset).length) (by rw[i,a];simp) (by simp;omega) (by omega)
 have e:∀b,cU {cu 5 b with stream:=G.stream,offset:=G.offset,data:=G.data}:=λb=>by
  refine⟨⟨b1,by simp[cu],k,l⟩,⟨λh=>?_,λh=>hd⟩,?_⟩<;>simp[cu]at *
 cases m:G.fin with
 |true=>
  have a:da G=9::(aR G.stream++aR G.offset++aR G.data.size++aG G.data):=by simp[da,c,m]
  have f:gT G={cu 5 true with stream:=G.stream,offset:=G.offset,data:=G.data}:=by simp[gT,c,m]
  replace g:=g 9 a;replace n2:=n2 9 a;replace j:=j 9 a;replace e:=e true;rw[a,f];simp[fD,g,n2,j,e,fu];omega
 |false=>
  have a:da G=8::(aR G.stream++aR G.offset++aR G.data.size++aG G.data):=by simp[da,c,m]
  have f:gT G={cu 5 false with stream:=G.stream,offset:=G.offset,data:=G.data}:=by simp[gT,c,m]
  replace g:=g 8 a;replace n2:=n2 8 a;replace j:=j 8 a;replace e:=e false;rw[a,f];simp[fD,g,n2,j,e,fu];omega
 have a:da G=28::aR G.code:=by simp[da,c]
 have f:gT G={cu 6 false with code:=G.code}:=by simp[gT,c]
 have g:=nY (L:=L) (K:=K++[28]) (M:=M) (q:=G.code) (k:=K.length+1) (by rw[i,a];simp) (by simp) ⟨s,b2⟩;rw[a,f];have e:cU {cu 6 false with code:=G.code}:=by
  refine⟨⟨by simp[cu],b2,by simp[cu],by simp[cu]⟩,⟨λh=>?_,λh=>?_⟩,?_⟩<;>simp[cu]at *
 simp[fD,g,e];omega
theorem OR(a:List Fr):∀(A:List Int)(k:Nat)(b:List Fr),(∀f∈a,f.ok/\cU f/\(f.ranges.length:Int)<=4611686018427387903)->a.length<k->iz (A++bw a) k A.length b=(some (b++a.map gT),-1):=by
 induction a with
 |nil=>
  intro A k b _ c;obtain⟨k,rfl⟩:∃m,k=m+1:=⟨k-1,by simp at c;omega⟩
  simp[iz,bw]
 |cons f r d=>
  intro A k b h c;obtain⟨k,rfl⟩:∃m,k=m+1:=⟨k-1,by simp at c;omega⟩
  obtain⟨e,i,j⟩:=h f (by simp);have l:=OQ e i j (L:=A++bw (f::r)) (K:=A) (M:=bw r) rfl;have q:=(uS f).1;have n:A.length<(A++bw (f::r)).length:=by simp[bw];omega
  simp only[iz,az n,l]
  have:=d (A++da f) k (b++[gT f]) (λg p=>h g (by simp[p])) (by simp at c;omega);simp only[bH]at this;rw[show A++bw (f::r)=A++da f++bw r by simp[bw],this];simp
theorem OS(a:List Fr):a.length<=(bw a).length:=by
 induction a with
 |nil=>simp[bw]
 |cons f r b=>have:=(uS f).1;simp[bw];omega
theorem Ed{a:List Fr}(h:∀f∈a,f.ok/\cU f/\(f.ranges.length:Int)<=4611686018427387903)(h0:a≠[]):fE (bw a)=(some (a.map gT),-1):=by
 have hl:=OS a;have hp:=oj.2 h0;unfold fE;rw[ah (by omega)];have:=OR a [] ((bw a).length+1) [] h (by omega);simpa using this
