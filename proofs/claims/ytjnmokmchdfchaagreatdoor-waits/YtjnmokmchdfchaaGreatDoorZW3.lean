import Derived.Test.YtjnmokmchdfchaaGreatDoorZW1
import Derived.Test.YtjnmokmchdfchaaGreatDoorZW2
set_option maxRecDepth 1000000
set_option maxHeartbeats 0
set_option linter.all false
namespace Go.Proofs.YtjnmokmchdfchaaGreatDoor
open Go.RowKit Tryz
attribute[local go_sem↓]Go.wp_at_zero Go.wp_at_succ
variable{A:Addr}{k n:Nat}{x:Value}{W w:World}
structure It where
 h:Hd
 high:Int
 last:Int
 code:Int
 ended:Bool
 given:Bool
 over:Bool
def qV(w:World)(sb a:Nat)(s:It):Prop:=
 w.cell? ⟨sb,a+3,none⟩=some (.int .u64 s.high)/\w.cell? ⟨sb,a+4,none⟩=some (.int .u64 s.last)/\w.cell? ⟨sb,a+5,none⟩=some (.int .u64 s.code)/\w.cell? ⟨sb,a+6,none⟩=some (.bool s.ended)/\w.cell? ⟨sb,a+7,none⟩=some (.bool s.given)/\w.cell? ⟨sb,a+8,none⟩=some (.bool s.over)
theorem qV.ah{s:It}(H:qV w n k s)(g:w.grownBy W none):qV W n k s:=
 ⟨g.cell H.1 (by simp),g.cell H.2.1 (by simp),g.cell H.2.2.1 (by simp),g.cell H.2.2.2.1 (by simp),g.cell H.2.2.2.2.1 (by simp),g.cell H.2.2.2.2.2 (by simp)⟩
def cq(f:Fr):Int:=f.offset+f.data.size
def It.jS(s:It)(e:Int):Bool:=(s.ended&&(e !=s.last))||decide (e<s.high)
def It.busy(s:It)(f:Fr)(ai:Int):Bool:= !s.given&&decide (s.h.fr+ai<cq f)
theorem wu(w:World)(f:Fr)(a:Value)(h0:0<=f.offset)(hs:cq f<=9223372036854775807):Calls prog 247 #[.agg (bF f a)] w λe b=>e=.returned (.int .u64 (cq f))/\w.grownBy b none:=by
 obtain⟨kind,stream,offset,code,fin,data,ranges⟩:=f;unfold cq bF at *;simp only at *;have c:IntKind.u64.wrap (offset+(data.size:Int))=offset+(data.size:Int):=by rw[eH];omega
 have d:IntKind.u64.wrap (data.size:Int)=(data.size:Int):=by rw[eH];omega
 go_enter func247,ntmps247;go_wp2_with fail;go_ret;exact⟨rfl,by repeat(first|exact av _ _|apply dh|apply aP|apply aS)⟩
theorem zo(w:World)(sb a:Nat)(s:It)(H:qV w sb a s)(e:Int):Calls prog 257 #[.pointer (some ⟨sb,a,none⟩),.int .u64 e] w λr b=>r=.returned (.bool (s.jS e))/\b=w:=by
 obtain⟨c3,c4,c5,c6,c7,c8⟩:=H;unfold It.jS;generalize s.high=hi at *;generalize s.last=la at *;generalize s.ended=en at *;cases en<;>by_cases hd:e=la<;>by_cases c:e<hi;all_goals
  go_enter func257,ntmps257
  go_wp2_with fail
  all_goals
   first
    |(go_ret;exact⟨by simp_all[bne],rfl⟩)
    |(exfalso;omega)
theorem kc(h:w.cell? A=some x):∀W,w.grownBy W none->W.cell? A=some x:=λ_ g=>g.cell h (by simp)
theorem ED(w:World)(sb g:Nat)(s:It)(h0:w.cell? ⟨sb,g,none⟩=some (.int .u64 s.h.fr))(H:qV w sb g s)(A:0<=s.h.fr/\s.h.fr<=4611686018427387903)(f:Fr)(c:Value)(x:0<=f.offset)(hs:cq f<=9223372036854775807)(ai:Int)(B:0<=ai/\ai<=1000000):
 Calls prog 214 #[.pointer (some ⟨sb,g,none⟩),.agg (bF f c),.int .i64 ai] w λr i=>r=.returned (.bool (s.busy f ai))/\w.grownBy i none:=by
 obtain⟨-,-,-,-,c7,-⟩:=H;unfold It.busy;have y:=J (λW=>wu W f c x hs);generalize s.h.fr=fr at *;generalize s.given=gv at *;generalize cq f=en at *;obtain⟨kind,stream,offset,code,fin,data,ranges⟩:=f;unfold bF at *;simp only at *;obtain⟨b,a⟩:=exq (w.alloc (.cells #[.int .i64 kind,.int .i64 stream,.int .u64 offset,.int .u64 code,.bool fin,.string data,c] 158));have d:w.grownBy b none:=by rw[a];exact aC _ _ _
 have j:b.heap[w.heap.size]?=some (.cells #[.int .i64 kind,.int .i64 stream,.int .u64 offset,.int .u64 code,.bool fin,.string data,c] 158 (0,0)):=by rw[a];exact aH _ _
 obtain⟨l,m,n,p,q,t,u⟩:=cH j;replace l:=kc l;replace m:=kc m;replace n:=kc n;replace p:=kc p;replace q:=kc q;replace t:=kc t;replace u:=kc u;have d0:=kc (d.cell h0 (by simp));have d7:=kc (d.cell c7 (by simp));clear h0 c7;have C:IntKind.u64.wrap ai=ai:=by rw[eH];omega
 have D:IntKind.u64.wrap (fr+ai)=fr+ai:=by rw[eH];omega
 have k:b.grownBy b.drew none:=aP (av _ _);replace j:=J j;cases gv
 ·go_enter func214,ntmps214;go_wp2_with fail;rw[<-a];clear a;go_region_held3 (λi=>b.grownBy i none)
   (first|with_reducible exact v|with_reducible exact k)
   (first|(go_at_call 247;refine(Z y _).mono ?_;rintro e E⟨rfl,z⟩;have v:=aj k z))
  go_wp2_with fail;go_ret;exact⟨rfl,aj d v⟩
 go_enter func214,ntmps214;go_wp2_with fail;rw[<-a];clear a;go_big_region;go_wp2_with fail;go_ret;exact⟨rfl,aj d k⟩
theorem wO(a:Option Addr)(b o n cap l:Nat)(la lb:Array Value)(w:World)(p:Nat->Prop)(y z A B:Nat->Value)(Inv:Nat->World->Prop)(C:0<n->a=some ⟨b,o,none⟩)(D:n<=cap/\cap<=maxLen)
 (M:∀args w,(callFunc l args).run prog w=.ok (.enter l args) w) (h0:Inv 0 w)
 (r:∀(W:World)(h:Nat),Inv h W->h<n->W.cell? ⟨b,o+h*4,none⟩=some (y h)/\W.cell? ⟨b,o+h*4+1,none⟩=some (z h)/\W.cell? ⟨b,o+h*4+2,none⟩=some (A h)/\W.cell? ⟨b,o+h*4+3,none⟩=some (B h))
 (s:∀(W:World)(h:Nat),Inv h W->h<n->Calls prog l (la++ #[.agg #[y h,z h,A h,B h]]++lb) W (λe E=>dw (p h) e/\Inv (h+1) E)):
 Calls prog 235 #[.slice a n cap,.func (.func l) la lb] w λe c=>(∃k:Nat,k<n/\e=.returned (.int .i64 (k:Int))/\p k/\(∀i,i<k->¬p i)/\Inv (k+1) c)\/(e=.returned (.int .i64 (-1))/\(∀i,i<n->¬p i)/\Inv n c):=by
 obtain⟨R,d⟩:∃R:Ending->World->Prop,R=λe c=>(∃k:Nat,k<n/\e=.returned (.int .i64 (k:Int))/\p k/\(∀i,i<k->¬p i)/\Inv (k+1) c)\/(e=.returned (.int .i64 (-1))/\(∀i,i<n->¬p i)/\Inv n c):=⟨_,rfl⟩
 rw[<-d];obtain⟨N,F⟩:=D;unfold maxLen at F;replace d:=J d;replace s:=J s;replace r:=J r;replace h0:=J h0;go_enter func235,ntmps235;go_wp2_with fail;go_loopw [8] (λu wr=>∃j:Nat,j<=n/\u=.int .i64 (j:Int)/\(∀i,i<j->¬p i)/\Inv j wr) (λu _=>n-(intOf u).toNat);case atStart=>exact⟨0,by omega,rfl,λi hi=>by omega,Z h0⟩
 case round=>
  obtain⟨j,O,rfl,f,g⟩:=hrel;replace f:=J f;by_cases v:j<n
  ·have d1:decide ((j:Int)<(n:Int))=true:=bp (by omega);obtain⟨P,Q,S,T⟩:=Z r wr j g v;have hF:=J (Z s wr j g v);have G:=C (by omega);subst G;have U:(j:Int)<(n:Int):=by omega
   replace g:=J g;clear C;go_wp2_with fail;refine(Z hF).mono ?_;rintro e H⟨⟨t,rfl,m⟩,q⟩;replace q:=J q;cases t
   ·have I:Hid (¬p j):=J (λhp=>by cases m.2 hp);clear m;go_wp2_with fail;go_roundw;case rel=>
     refine⟨j+1,by omega,by simp,λi K=>?_,Z q⟩
     obtain h|rfl:=pq.1 K
     exact Z f i h;exact Z I
    case measure=>simp[intOf];omega
   have L:Hid (p j):=J (m.1 rfl);clear m;have x:Hid (R (.returned (.int .i64 (j:Int))) H):=J (by rw[Z d];exact .inl ⟨j,v,rfl,Z L,Z f,Z q⟩);go_wp2_with fail;exact Z x
  have d1:decide ((j:Int)<(n:Int))=false:=bB (by omega);obtain rfl:j=n:=by omega
  have x:Hid (R (.returned (.int .i64 (-1))) wr):=J (by rw[Z d];exact .inr ⟨rfl,Z f,g⟩);go_wp2_with fail;exact Z x
theorem zJ(a:Option Addr)(b o n cap c:Nat)(la lb:Array Value)(w:World)(p:Nat->Prop)(j l m q:Nat->Value)(v:0<n->a=some ⟨b,o,none⟩)(x:n<=cap/\cap<=maxLen)
 (y:∀args w,(callFunc c args).run prog w=.ok (.enter c args) w)
 (t:∀(W:World)(h:Nat),w.grownBy W none->h<n->W.cell? ⟨b,o+h*4,none⟩=some (j h)/\W.cell? ⟨b,o+h*4+1,none⟩=some (l h)/\W.cell? ⟨b,o+h*4+2,none⟩=some (m h)/\W.cell? ⟨b,o+h*4+3,none⟩=some (q h))
 (u:∀(W:World)(h:Nat),w.grownBy W none->h<n->Calls prog c (la++ #[.agg #[j h,l h,m h,q h]]++lb) W (λe z=>dw (p h) e/\W.grownBy z none)):
 Calls prog 197 #[.slice a n cap,.func (.func c) la lb] w λe A=>dw (∃i,i<n/\p i) e/\w.grownBy A none:=by
 have B:=J (wO a b o n cap c la lb w p j l m q (λ_ W=>w.grownBy W none) v x y (av _ _) t (λW h g C=>(u W h g C).mono (λ_ _ f=>⟨f.1,aj g f.2⟩)));obtain⟨R,d⟩:∃R:Prop,R=(∃i,i<n/\p i):=⟨_,rfl⟩
 rw[<-d];replace d:=J d;clear u t;go_enter func197,ntmps197;go_wp2_with fail;refine(Z B).mono ?_;rintro e F(⟨k,D,rfl,hp,-,r⟩|⟨rfl,hp,r⟩)
 ·have hd:decide (0<=(k:Int))=true:=bp (by omega);have s:Hid (dw R (.returned (.bool true))):=J (qU (by rw[Z d];exact⟨k,D,hp⟩));go_wp2_with fail;go_ret;exact⟨Z s,r⟩
 have s:Hid (dw R (.returned (.bool false))):=J (lu (by rw[Z d];rintro⟨i,E,f⟩;exact hp i E f));replace hp:=J hp;go_wp2_with fail;go_ret;exact⟨Z s,r⟩
theorem Fv(a:Option Addr)(b o n cap l:Nat)(la lb:Array Value)(w:World)(p:Nat->Prop)(y z A B:Nat->Value)(Inv:Nat->World->Prop)(C:0<n->a=some ⟨b,o,none⟩)(D:n<=cap/\cap<=maxLen)
 (M:∀args w,(callFunc l args).run prog w=.ok (.enter l args) w) (h0:Inv 0 w)
 (r:∀(W:World)(h:Nat),Inv h W->h<n->W.cell? ⟨b,o+h*4,none⟩=some (y h)/\W.cell? ⟨b,o+h*4+1,none⟩=some (z h)/\W.cell? ⟨b,o+h*4+2,none⟩=some (A h)/\W.cell? ⟨b,o+h*4+3,none⟩=some (B h))
 (s:∀(W:World)(h:Nat),Inv h W->h<n->Calls prog l (la++ #[.agg #[y h,z h,A h,B h]]++lb) W (λe E=>dw (p h) e/\Inv (h+1) E)):
 Calls prog 303 #[.slice a n cap,.func (.func l) la lb] w λe c=>(∃k:Nat,k<n/\e=.returned (.int .i64 (k:Int))/\p k/\(∀i,i<k->¬p i)/\Inv (k+1) c)\/(e=.returned (.int .i64 (-1))/\(∀i,i<n->¬p i)/\Inv n c):=by
 obtain⟨R,d⟩:∃R:Ending->World->Prop,R=λe c=>(∃k:Nat,k<n/\e=.returned (.int .i64 (k:Int))/\p k/\(∀i,i<k->¬p i)/\Inv (k+1) c)\/(e=.returned (.int .i64 (-1))/\(∀i,i<n->¬p i)/\Inv n c):=⟨_,rfl⟩
 rw[<-d];obtain⟨N,F⟩:=D;unfold maxLen at F;replace d:=J d;replace s:=J s;replace r:=J r;replace h0:=J h0;go_enter func303,ntmps303;go_wp2_with fail;go_loopw [8] (λu wr=>∃j:Nat,j<=n/\u=.int .i64 (j:Int)/\(∀i,i<j->¬p i)/\Inv j wr) (λu _=>n-(intOf u).toNat);case atStart=>exact⟨0,by omega,rfl,λi hi=>by omega,Z h0⟩
 case round=>
  obtain⟨j,O,rfl,f,g⟩:=hrel;replace f:=J f;by_cases v:j<n
  ·have d1:decide ((j:Int)<(n:Int))=true:=bp (by omega);obtain⟨P,Q,S,T⟩:=Z r wr j g v;have hF:=J (Z s wr j g v);have G:=C (by omega);subst G;have U:(j:Int)<(n:Int):=by omega
   replace g:=J g;clear C;go_wp2_with fail;refine(Z hF).mono ?_;rintro e H⟨⟨t,rfl,m⟩,q⟩;replace q:=J q;cases t
   ·have I:Hid (¬p j):=J (λhp=>by cases m.2 hp);clear m;go_wp2_with fail;go_roundw;case rel=>
     refine⟨j+1,by omega,by simp,λi K=>?_,Z q⟩
     obtain h|rfl:=pq.1 K
     exact Z f i h;exact Z I
    case measure=>simp[intOf];omega
   have L:Hid (p j):=J (m.1 rfl);clear m;have x:Hid (R (.returned (.int .i64 (j:Int))) H):=J (by rw[Z d];exact .inl ⟨j,v,rfl,Z L,Z f,Z q⟩);go_wp2_with fail;exact Z x
  have d1:decide ((j:Int)<(n:Int))=false:=bB (by omega);obtain rfl:j=n:=by omega
  have x:Hid (R (.returned (.int .i64 (-1))) wr):=J (by rw[Z d];exact .inr ⟨rfl,Z f,g⟩);go_wp2_with fail;exact Z x
theorem Fw(a:Option Addr)(b o n cap c:Nat)(la lb:Array Value)(w:World)(p:Nat->Prop)(j l m q:Nat->Value)(v:0<n->a=some ⟨b,o,none⟩)(x:n<=cap/\cap<=maxLen)
 (y:∀args w,(callFunc c args).run prog w=.ok (.enter c args) w)
 (t:∀(W:World)(h:Nat),w.grownBy W none->h<n->W.cell? ⟨b,o+h*4,none⟩=some (j h)/\W.cell? ⟨b,o+h*4+1,none⟩=some (l h)/\W.cell? ⟨b,o+h*4+2,none⟩=some (m h)/\W.cell? ⟨b,o+h*4+3,none⟩=some (q h))
 (u:∀(W:World)(h:Nat),w.grownBy W none->h<n->Calls prog c (la++ #[.agg #[j h,l h,m h,q h]]++lb) W (λe z=>dw (p h) e/\W.grownBy z none)):
 Calls prog 292 #[.slice a n cap,.func (.func c) la lb] w λe A=>dw (∃i,i<n/\p i) e/\w.grownBy A none:=by
 have B:=J (Fv a b o n cap c la lb w p j l m q (λ_ W=>w.grownBy W none) v x y (av _ _) t (λW h g C=>(u W h g C).mono (λ_ _ f=>⟨f.1,aj g f.2⟩)));obtain⟨R,d⟩:∃R:Prop,R=(∃i,i<n/\p i):=⟨_,rfl⟩
 rw[<-d];replace d:=J d;clear u t;go_enter func292,ntmps292;go_wp2_with fail;refine(Z B).mono ?_;rintro e F(⟨k,D,rfl,hp,-,r⟩|⟨rfl,hp,r⟩)
 ·have hd:decide (0<=(k:Int))=true:=bp (by omega);have s:Hid (dw R (.returned (.bool true))):=J (qU (by rw[Z d];exact⟨k,D,hp⟩));go_wp2_with fail;go_ret;exact⟨Z s,r⟩
 have s:Hid (dw R (.returned (.bool false))):=J (lu (by rw[Z d];rintro⟨i,E,f⟩;exact hp i E f));replace hp:=J hp;go_wp2_with fail;go_ret;exact⟨Z s,r⟩
theorem Fx(a:Option Addr)(b o n cap l:Nat)(la lb:Array Value)(w:World)(p:Nat->Prop)(y z A B C D E:Nat->Value)(Inv:Nat->World->Prop)(F:0<n->a=some ⟨b,o,none⟩)(G:n<=cap/\cap<=maxLen)
 (P:∀args w,(callFunc l args).run prog w=.ok (.enter l args) w) (h0:Inv 0 w)
 (r:∀(W:World)(h:Nat),Inv h W->h<n->W.cell? ⟨b,o+h*7,none⟩=some (y h)/\W.cell? ⟨b,o+h*7+1,none⟩=some (z h)/\W.cell? ⟨b,o+h*7+2,none⟩=some (A h)/\W.cell? ⟨b,o+h*7+3,none⟩=some (B h)/\W.cell? ⟨b,o+h*7+4,none⟩=some (C h)/\W.cell? ⟨b,o+h*7+5,none⟩=some (D h)/\W.cell? ⟨b,o+h*7+6,none⟩=some (E h))
 (s:∀(W:World)(h:Nat),Inv h W->h<n->Calls prog l (la++ #[.agg #[y h,z h,A h,B h,C h,D h,E h]]++lb) W (λe H=>dw (p h) e/\Inv (h+1) H)):
 Calls prog 213 #[.slice a n cap,.func (.func l) la lb] w λe c=>(∃k:Nat,k<n/\e=.returned (.int .i64 (k:Int))/\p k/\(∀i,i<k->¬p i)/\Inv (k+1) c)\/(e=.returned (.int .i64 (-1))/\(∀i,i<n->¬p i)/\Inv n c):=by
 obtain⟨R,d⟩:∃R:Ending->World->Prop,R=λe c=>(∃k:Nat,k<n/\e=.returned (.int .i64 (k:Int))/\p k/\(∀i,i<k->¬p i)/\Inv (k+1) c)\/(e=.returned (.int .i64 (-1))/\(∀i,i<n->¬p i)/\Inv n c):=⟨_,rfl⟩
 rw[<-d];obtain⟨Q,I⟩:=G;unfold maxLen at I;replace d:=J d;replace s:=J s;replace r:=J r;replace h0:=J h0;go_enter func213,ntmps213;go_wp2_with fail;go_loopw [8] (λu wr=>∃j:Nat,j<=n/\u=.int .i64 (j:Int)/\(∀i,i<j->¬p i)/\Inv j wr) (λu _=>n-(intOf u).toNat);case atStart=>exact⟨0,by omega,rfl,λi hi=>by omega,Z h0⟩
 case round=>
  obtain⟨j,S,rfl,f,g⟩:=hrel;replace f:=J f;by_cases v:j<n
  ·have d1:decide ((j:Int)<(n:Int))=true:=bp (by omega);obtain⟨T,U,V,X,Y,y5,y6⟩:=Z r wr j g v;have hF:=J (Z s wr j g v);have K:=F (by omega);subst K;have i1:(j:Int)<(n:Int):=by omega
   replace g:=J g;clear F;go_wp2_with fail;refine(Z hF).mono ?_;rintro e L⟨⟨t,rfl,m⟩,q⟩;replace q:=J q;cases t
   ·have M:Hid (¬p j):=J (λhp=>by cases m.2 hp);clear m;go_wp2_with fail;go_roundw;case rel=>
     refine⟨j+1,by omega,by simp,λi N=>?_,Z q⟩
     obtain h|rfl:=pq.1 N
     exact Z f i h;exact Z M
    case measure=>simp[intOf];omega
   have O:Hid (p j):=J (m.1 rfl);clear m;have x:Hid (R (.returned (.int .i64 (j:Int))) L):=J (by rw[Z d];exact .inl ⟨j,v,rfl,Z O,Z f,Z q⟩);go_wp2_with fail;exact Z x
  have d1:decide ((j:Int)<(n:Int))=false:=bB (by omega);obtain rfl:j=n:=by omega
  have x:Hid (R (.returned (.int .i64 (-1))) wr):=J (by rw[Z d];exact .inr ⟨rfl,Z f,g⟩);go_wp2_with fail;exact Z x
theorem Fy(a:Option Addr)(b o n cap c:Nat)(la lb:Array Value)(w:World)(p:Nat->Prop)(j l m q r s t:Nat->Value)(z:0<n->a=some ⟨b,o,none⟩)(A:n<=cap/\cap<=maxLen)
 (B:∀args w,(callFunc c args).run prog w=.ok (.enter c args) w)
 (x:∀(W:World)(h:Nat),w.grownBy W none->h<n->W.cell? ⟨b,o+h*7,none⟩=some (j h)/\W.cell? ⟨b,o+h*7+1,none⟩=some (l h)/\W.cell? ⟨b,o+h*7+2,none⟩=some (m h)/\W.cell? ⟨b,o+h*7+3,none⟩=some (q h)/\W.cell? ⟨b,o+h*7+4,none⟩=some (r h)/\W.cell? ⟨b,o+h*7+5,none⟩=some (s h)/\W.cell? ⟨b,o+h*7+6,none⟩=some (t h))
 (y:∀(W:World)(h:Nat),w.grownBy W none->h<n->Calls prog c (la++ #[.agg #[j h,l h,m h,q h,r h,s h,t h]]++lb) W (λe C=>dw (p h) e/\W.grownBy C none)):
 Calls prog 162 #[.slice a n cap,.func (.func c) la lb] w λe D=>dw (∃i,i<n/\p i) e/\w.grownBy D none:=by
 have E:=J (Fx a b o n cap c la lb w p j l m q r s t (λ_ W=>w.grownBy W none) z A B (av _ _) x (λW h g F=>(y W h g F).mono (λ_ _ f=>⟨f.1,aj g f.2⟩)));obtain⟨R,d⟩:∃R:Prop,R=(∃i,i<n/\p i):=⟨_,rfl⟩
 rw[<-d];replace d:=J d;clear y x;go_enter func162,ntmps162;go_wp2_with fail;refine(Z E).mono ?_;rintro e I(⟨k,G,rfl,hp,-,u⟩|⟨rfl,hp,u⟩)
 ·have hd:decide (0<=(k:Int))=true:=bp (by omega);have v:Hid (dw R (.returned (.bool true))):=J (qU (by rw[Z d];exact⟨k,G,hp⟩));go_wp2_with fail;go_ret;exact⟨Z v,u⟩
 have v:Hid (dw R (.returned (.bool false))):=J (lu (by rw[Z d];rintro⟨i,H,f⟩;exact hp i H f));replace hp:=J hp;go_wp2_with fail;go_ret;exact⟨Z v,u⟩
theorem Fz(a:Option Addr)(b o n cap l:Nat)(la lb:Array Value)(w:World)(p:Nat->Prop)(y z:Nat->Value)(Inv:Nat->World->Prop)(A:0<n->a=some ⟨b,o,none⟩)(B:n<=cap/\cap<=maxLen)
 (K:∀args w,(callFunc l args).run prog w=.ok (.enter l args) w) (h0:Inv 0 w)
 (r:∀(W:World)(h:Nat),Inv h W->h<n->W.cell? ⟨b,o+h*2,none⟩=some (y h)/\W.cell? ⟨b,o+h*2+1,none⟩=some (z h))
 (s:∀(W:World)(h:Nat),Inv h W->h<n->Calls prog l (la++ #[.agg #[y h,z h]]++lb) W (λe C=>dw (p h) e/\Inv (h+1) C)):
 Calls prog 305 #[.slice a n cap,.func (.func l) la lb] w λe c=>(∃k:Nat,k<n/\e=.returned (.int .i64 (k:Int))/\p k/\(∀i,i<k->¬p i)/\Inv (k+1) c)\/(e=.returned (.int .i64 (-1))/\(∀i,i<n->¬p i)/\Inv n c):=by
 obtain⟨R,d⟩:∃R:Ending->World->Prop,R=λe c=>(∃k:Nat,k<n/\e=.returned (.int .i64 (k:Int))/\p k/\(∀i,i<k->¬p i)/\Inv (k+1) c)\/(e=.returned (.int .i64 (-1))/\(∀i,i<n->¬p i)/\Inv n c):=⟨_,rfl⟩
 rw[<-d];obtain⟨L,D⟩:=B;unfold maxLen at D;replace d:=J d;replace s:=J s;replace r:=J r;replace h0:=J h0;go_enter func305,ntmps305;go_wp2_with fail;go_loopw [8] (λu wr=>∃j:Nat,j<=n/\u=.int .i64 (j:Int)/\(∀i,i<j->¬p i)/\Inv j wr) (λu _=>n-(intOf u).toNat);case atStart=>exact⟨0,by omega,rfl,λi hi=>by omega,Z h0⟩
 case round=>
  obtain⟨j,M,rfl,f,g⟩:=hrel;replace f:=J f;by_cases v:j<n
  ·have d1:decide ((j:Int)<(n:Int))=true:=bp (by omega);obtain⟨N,O⟩:=Z r wr j g v;have hF:=J (Z s wr j g v);have E:=A (by omega);subst E;have P:(j:Int)<(n:Int):=by omega
   replace g:=J g;clear A;go_wp2_with fail;refine(Z hF).mono ?_;rintro e F⟨⟨t,rfl,m⟩,q⟩;replace q:=J q;cases t
   ·have G:Hid (¬p j):=J (λhp=>by cases m.2 hp);clear m;go_wp2_with fail;go_roundw;case rel=>
     refine⟨j+1,by omega,by simp,λi H=>?_,Z q⟩
     obtain h|rfl:=pq.1 H
     exact Z f i h;exact Z G
    case measure=>simp[intOf];omega
   have I:Hid (p j):=J (m.1 rfl);clear m;have x:Hid (R (.returned (.int .i64 (j:Int))) F):=J (by rw[Z d];exact .inl ⟨j,v,rfl,Z I,Z f,Z q⟩);go_wp2_with fail;exact Z x
  have d1:decide ((j:Int)<(n:Int))=false:=bB (by omega);obtain rfl:j=n:=by omega
  have x:Hid (R (.returned (.int .i64 (-1))) wr):=J (by rw[Z d];exact .inr ⟨rfl,Z f,g⟩);go_wp2_with fail;exact Z x
theorem FB(a:Option Addr)(b o n cap c:Nat)(la lb:Array Value)(w:World)(p:Nat->Prop)(j l:Nat->Value)(t:0<n->a=some ⟨b,o,none⟩)(u:n<=cap/\cap<=maxLen)
 (v:∀args w,(callFunc c args).run prog w=.ok (.enter c args) w)
 (r:∀(W:World)(h:Nat),w.grownBy W none->h<n->W.cell? ⟨b,o+h*2,none⟩=some (j h)/\W.cell? ⟨b,o+h*2+1,none⟩=some (l h))
 (s:∀(W:World)(h:Nat),w.grownBy W none->h<n->Calls prog c (la++ #[.agg #[j h,l h]]++lb) W (λe x=>dw (p h) e/\W.grownBy x none)):
 Calls prog 300 #[.slice a n cap,.func (.func c) la lb] w λe y=>dw (∃i,i<n/\p i) e/\w.grownBy y none:=by
 have z:=J (Fz a b o n cap c la lb w p j l (λ_ W=>w.grownBy W none) t u v (av _ _) r (λW h g A=>(s W h g A).mono (λ_ _ f=>⟨f.1,aj g f.2⟩)));obtain⟨R,d⟩:∃R:Prop,R=(∃i,i<n/\p i):=⟨_,rfl⟩
 rw[<-d];replace d:=J d;clear s r;go_enter func300,ntmps300;go_wp2_with fail;refine(Z z).mono ?_;rintro e D(⟨k,B,rfl,hp,-,m⟩|⟨rfl,hp,m⟩)
 ·have hd:decide (0<=(k:Int))=true:=bp (by omega);have q:Hid (dw R (.returned (.bool true))):=J (qU (by rw[Z d];exact⟨k,B,hp⟩));go_wp2_with fail;go_ret;exact⟨Z q,m⟩
 have q:Hid (dw R (.returned (.bool false))):=J (lu (by rw[Z d];rintro⟨i,C,f⟩;exact hp i C f));replace hp:=J hp;go_wp2_with fail;go_ret;exact⟨Z q,m⟩
