import Derived.Test.YtjnmokmchdfchaaGreatDoorZW9
import Derived.Test.YtjnmokmchdfchaaGreatDoorZWh
set_option maxRecDepth 1000000
set_option maxHeartbeats 0
set_option linter.all false
namespace Go.Proofs.YtjnmokmchdfchaaGreatDoor
open Go.RowKit Tryz
attribute[local go_sem↓]Go.wp_at_zero Go.wp_at_succ
variable{H:Fr}{b n o:Nat}{T:TypeId}{x:Value}{V W w:World}
theorem HX(c:w.heap[b]?=some (.cells (bF H x) T (0,0)))(d:cV w H x)(f:1<=n)(g:n<=maxLen):mr w (some ⟨b,0,none⟩) 1 n [H]:=by
 refine⟨rfl,f,g,.inr ⟨b,0,rfl,λi hi=>?_⟩⟩
 have:i=0:=by simp at hi;omega
 subst this;refine⟨x,d,λj u a=>?_⟩
 have e:lD [H] 0=H:=rfl;rw[e]at a;rw[mK,dv,aU c];have:bF H x=(eM H x).toArray:=rfl;rw[this];simpa using a
theorem xw(w:World)(f:Fr)(d:Value)(v:cV w f d)(hs:dm f)(x:fk [f]<=30000000):
 Calls prog 206 #[.agg (bF f d)] w λe j=>(∃a n c,e=.returned (.slice a n c)/\aX j w.heap.size (.slice a n c) (bu [f]))/\w.grownBy j none:=by
 have y:=J (λW a n cap(g:w.grownBy W none)(h:mr W a n cap [f])=>Av W a n cap [f] h x);have F:qv [f]:=⟨by simp,λi hi=>by
  have:i=0:=by simp at hi;omega
  subst this;exact hs⟩
 have z:=J (λ(W:World)(b:Nat)(g:w.grownBy W none)(h:W.heap[b]?=some (.cells (bF f d) 158 (0,0)))=>HX (n:=1) h (v.ah g) (by omega) (by simp[maxLen]));obtain⟨R,l⟩:∃R:Ending->World->Prop,R=λe j=>(∃a n c,e=.returned (.slice a n c)/\aX j w.heap.size (.slice a n c) (bu [f]))/\w.grownBy j none:=⟨_,rfl⟩
 rw[<-l];replace l:=J l;obtain⟨k,m⟩:=exq (w.alloc (.cells (bF f d) 158));have s:w.grownBy k none:=by rw[m];exact aC _ _ _
 have t:k.heap[w.heap.size]?=some (.cells (bF f d) 158 (0,0)):=by rw[m];exact aH _ _
 obtain⟨p,q⟩:=exq (k.alloc (.cells (bF f d) 158));have u:k.grownBy p none:=by rw[q];exact aC _ _ _
 have r:p.heap[k.heap.size]?=some (.cells (bF f d) 158 (0,0)):=by rw[q];exact aH _ _
 have G:=J (Z y p _ _ _ (aj s u) (Z z p _ (aj s u) r));have A:=aj s u;replace r:=J r;clear y z v hs x;obtain⟨kind,stream,offset,code,fin,data,ranges⟩:=f;unfold bF at *;simp only at *;have H:=cH t;obtain⟨N,O,P,Q,S,T,U⟩:=H;replace t:=J t;go_enter func206,ntmps206;go_upto_region 1 with fail;rw[<-m];clear m;go_wp2_with fail;rw[<-q];refine(Z G).mono ?_;rintro e I⟨⟨-,B,C,D,rfl,E⟩|⟨K,-⟩,L⟩
 ·have M:Hid (R (.returned (.slice B C D)) I):=J (by
   rw[Z l];exact⟨⟨B,C,D,rfl,E.xk A.size⟩,aj A L⟩)
  clear q r E;go_wp2_with fail;exact Z M
 exact absurd F K
theorem AN(w:World)(sb:Nat)(ao:Int)(c0:w.cell? ⟨sb,0,none⟩=some (.int .i64 ao))(b:16<=ao/\ao<=1000000):Calls prog 203 #[.pointer (some ⟨sb,0,none⟩)] w λe a=>e=.returned (.int .i64 (ao-16))/\w.grownBy a none:=by
 have c:IntKind.i64.wrap (ao-16)=ao-16:=by simp[IntKind.wrap,IntKind.bits,IntKind.signed];omega
 go_enter func203,ntmps203;go_wp2_with fail;go_ret;exact⟨rfl,av _ _⟩
theorem ir{l:List Value}(h:W.rangeAt n o l/\w.grownBy W none)(g:W.grownBy V none):V.rangeAt n o l/\w.grownBy V none:=⟨λj v a=>g.cell (h.1 j v a) (by simp),aj h.2 g⟩
theorem xH(w:World)(sb:Nat)(key:List Int)(f:Bool)(h:di key)(i:w.rangeAt sb 2 (bv key))(gQ:w.cell? ⟨sb,18,none⟩=some (.bool f))(n:Int)(r:aR n)(a:Option Addr)(m cap:Nat)(l:List Int)(j:bh w a m cap l)(hl:l.length<=50000000):
 Calls prog 204 #[.pointer (some ⟨sb,0,none⟩),.int .u64 n,.slice a m cap] w λe b=>
  ∃g,e=.returned (.slice (some ⟨g,0,none⟩) (l.length+16) (l.length+16))/\w.heap.size<=g/\b.heap[g]?=some (.cells (bv (cT key (sd f) n l)).toArray 5 (0,0))/\w.grownBy b none:=by
 obtain⟨R,c⟩:∃R:Ending->World->Prop,R=λe b=>∃g,e=.returned (.slice (some ⟨g,0,none⟩) (l.length+16) (l.length+16))/\w.heap.size<=g/\b.heap[g]?=some (.cells (bv (cT key (sd f) n l)).toArray 5 (0,0))/\w.grownBy b none:=⟨_,rfl⟩
 rw[<-c];replace c:=J c;have s:=J (λW(g:w.grownBy W none)=>Bq key f n a m cap l W h r (j.ah g) hl);have x:(prog.info? 24).map (·.size)=some (bv key).length:=by rw[fK,h.1];exact mh
 have y:=underlying24;have z:=kc gQ;have d:w.rangeAt sb 2 (bv key)/\w.grownBy w none:=⟨i,av _ _⟩
 clear gQ i j;go_enter func204,ntmps204;go_wp2_with fail;go_region_held3 (λb=>b.rangeAt sb 2 (bv key)/\w.grownBy b none)
  (first|with_reducible exact k|with_reducible exact d|with_reducible exact ir d (aP (av _ none)))
  (first|(go_at_call 148;refine(Z s _ (aP (av _ none))).mono ?_;rintro e t⟨g,rfl,p,q,u⟩;have k:=ir (ir d (aP (av _ none))) u;have v:Hid (R (.returned (.slice (some ⟨g,0,none⟩) (l.length+16) (l.length+16))) t):=J (by rw[Z c];exact⟨g,rfl,p,q,k.2⟩);clear p q))
 go_wp2_with fail;exact Z v
