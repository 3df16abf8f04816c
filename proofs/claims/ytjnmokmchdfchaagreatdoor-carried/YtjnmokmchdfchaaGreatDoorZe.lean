import Derived.Laws.OwnMore
import Derived.Test.YtjnmokmchdfchaaGreatDoorZc
import Derived.Test.YtjnmokmchdfchaaGreatDoorZd
set_option maxRecDepth 1000000
set_option maxHeartbeats 8000000
set_option linter.all false
namespace Go.Proofs.YtjnmokmchdfchaaGreatDoor
open Go.RowKit Tryz
attribute[local go_sem↓]Go.wp_at_zero Go.wp_at_succ
variable{I:Act}{C c:Array Value}{F:Exit->Act->World->Prop}{G:Fr}{p q r:Int}{u:It}{L:List Int}{X:List Rg}{b i j k l m n o:Nat}{S:Nat->Prop}{H:Oper}{O a:Option Addr}{f:Ot}{s:Sd}{T:TypeId}{x y z:Value}{V W v w:World}{D:aU}
theorem bB.kP(H:bB w n k c D s):w.cell? ⟨k,99,none⟩=some (.int .i64 0):=(aX H.aN _).trans H.dC
theorem AT(w:World)(sb:Nat)(aF k:Int)(b:Value)(dC:w.cell? ⟨sb,99,none⟩=some (.int .i64 aF))(h:eH aF k≠0):Calls prog 126 #[.pointer (some ⟨sb,0,none⟩),.int .i64 k,b] w λr d=>r=.returned (.tuple #[.int .i64 0,bN (eH aF k)])/\w.grownBy d none:=by
 have a:=J (AR w sb aF k dC h);obtain⟨x,c⟩:=rQ h;rw[c]at a⊢;clear c h;go_enter func126,ntmps126;go_wp2_with fail;refine(Z a).mono ?_;rintro e g⟨rfl,f⟩;go_wp2_with fail;exact cA (v:=.tuple #[.int .i64 0,.iface 34 (.int .i64 x)]) (by simp[results,results126,go_sem,bN]) rfl ⟨rfl,f⟩
def Ot.wrote(o:Ot)(l:List Int)(ag:Int):Ot:={o with h:={o.h with bytes:=o.h.bytes++l.take (o.fv l.length ag)}}
def Sd.write(s:Sd)(k:Nat)(l:List Int):Int×Int×Sd:=
 if(s.out k).sE||(s.out k).sG then(0,3,s)else((s.out k).fv l.length s.ag,0,{s with out:=ai s.out k ((s.out k).wrote l s.ag)})
theorem HQ(w:World)(i sb:Nat)(cs:Array Value)(v:aU)(s:Sd)(H:bB w i sb cs v s)(k:Nat)(c:k<4)(d:Option Addr)(nx f:Nat)(l:List Int)(hl:bF w d nx f l)(p:(s.out k).h.nice)(q:((s.out k).h.bytes.length:Int)<=s.ag/\s.ag<=1000000)(t:(s.out k).h.fr+(s.out k).h.bytes.length<=4096):
 Calls prog 126 #[.pointer (some ⟨sb,0,none⟩),.int .i64 (k:Int),.slice d nx f] w λr j=>r=.returned (.tuple #[.int .i64 (s.write k l).1,bN (s.write k l).2.1])/\dO w.heap.size w i sb v (s.write k l).2.2 j:=by
 have m:=H.out k c;have a:=J (AS w sb k c (s.out k) H.kP (m.tail H.aN));have u:=J (λW(g:w.grownBy W none)=>HK (bA H.aN g) (m.ao g) p (bD H.aG g.size) ((H.ao g).vC k c) d nx f l (hl.ao g) s.ag q t);have x:=J (λW y(g:w.grownBy W none) o h=>dO.pre (N:=w.heap.size) (cY.ao g) (((H.ao g).vD (W:=y) k c o h).mono g.size));have c1:=(aX H.aN _).trans H.c1;have z:=J (λW(g:w.grownBy W none)=>H.to (N:=w.heap.size) g);unfold Sd.write;cases hd:((s.out k).sE||(s.out k).sG)
 ·rw[hd]at a;simp only[gm,fR]at a⊢;replace H:=J H;go_enter func126,ntmps126;go_wp2_with fail;refine(Z a).mono ?_;rintro e A⟨rfl,b⟩;have C:=b.cell c1 (by simp);go_wp2_with fail;refine(Z u _ b).mono ?_;rintro e D⟨rfl,n⟩;have B:=J (Z x _ _ b _ n);clear n;go_wp2_with fail;exact cA (v:=.tuple #[.int .i64 ((s.out k).fv l.length s.ag),.nilIface]) (by simp[results,results126,go_sem,bN]) rfl ⟨rfl,Z B⟩
 rw[hd]at a;simp only[eX]at a⊢;rw[show bN 3=.iface 34 (.int .i64 3)from rfl]at a;replace H:=J H;go_enter func126,ntmps126;go_wp2_with fail;refine(Z a).mono ?_;rintro e A⟨rfl,b⟩;go_wp2_with fail;exact cA (v:=.tuple #[.int .i64 0,bN 3]) (by simp[results,results126,go_sem,bN]) rfl ⟨rfl,Z z _ b⟩
theorem AU(w:World)(sb:Nat)(aF k:Int)(dC:w.cell? ⟨sb,99,none⟩=some (.int .i64 aF))(h:eH aF k≠0):Calls prog 127 #[.pointer (some ⟨sb,0,none⟩),.int .i64 k] w λr c=>r=.returned (bN (eH aF k))/\w.grownBy c none:=by
 have a:=J (AR w sb aF k dC h);obtain⟨x,b⟩:=rQ h;rw[b]at a⊢;clear b h;go_enter func127,ntmps127;go_wp2_with fail;refine(Z a).mono ?_;rintro e f⟨rfl,d⟩;go_wp2_with fail;go_ret;exact⟨rfl,d⟩
def Sd.finish(s:Sd)(k:Nat):Int×Sd:=
 if(s.out k).sE||(s.out k).sG then(3,s)else(0,{s with out:=ai s.out k {s.out k with sE:=true}})
theorem HU(w:World)(d sb:Nat)(cs:Array Value)(v:aU)(s:Sd)(H:bB w d sb cs v s)(k:Nat)(b:k<4):
 Calls prog 127 #[.pointer (some ⟨sb,0,none⟩),.int .i64 (k:Int)] w λr f=>r=.returned (bN (s.finish k).1)/\dO w.heap.size w d sb v (s.finish k).2 f:=by
 have i:=H.out k b;have a:=J (AS w sb k b (s.out k) H.kP (i.tail H.aN));have l:=J (λW(g:w.grownBy W none)=>vB (bA H.aN g) (i.ao g) ((H.ao g).vC k b));have m:=J (λW n(g:w.grownBy W none) o h=>dO.pre (N:=w.heap.size) (cY.ao g) (((H.ao g).vD (W:=n) k b o h).mono g.size));have p:=J (λW(g:w.grownBy W none)=>H.to (N:=w.heap.size) g);unfold Sd.finish;cases hd:((s.out k).sE||(s.out k).sG)
 ·rw[hd]at a;simp only[gm,fR]at a⊢;replace H:=J H;go_enter func127,ntmps127;go_wp2_with fail;refine(Z a).mono ?_;rintro e q⟨rfl,c⟩;go_wp2_with fail;refine(Z l _ c).mono ?_;rintro e u⟨rfl,j⟩;have t:=J (Z m _ _ c _ j);clear j;go_wp2_with fail;go_ret;exact⟨rfl,Z t⟩
 rw[hd]at a;simp only[eX]at a⊢;rw[show bN 3=.iface 34 (.int .i64 3)from rfl]at a;replace H:=J H;go_enter func127,ntmps127;go_wp2_with fail;refine(Z a).mono ?_;rintro e q⟨rfl,c⟩;go_wp2_with fail;go_ret;exact⟨rfl,Z p _ c⟩
theorem AV(w:World)(sb:Nat)(aF k:Int)(code:Int)(dC:w.cell? ⟨sb,99,none⟩=some (.int .i64 aF))(h:eH aF k≠0):Calls prog 128 #[.pointer (some ⟨sb,0,none⟩),.int .i64 k,.int .u64 code] w λr c=>r=.returned (bN (eH aF k))/\w.grownBy c none:=by
 have a:=J (qm w sb aF k dC);obtain⟨x,b⟩:=rQ h;rw[b]at a⊢;clear b h;go_enter func128,ntmps128;go_wp2_with fail;refine(Z a).mono ?_;rintro e f⟨rfl,d⟩;go_wp2_with fail;go_ret;exact⟨rfl,d⟩
def Ot.giveUp(o:Ot)(code:Int):Ot:={o with sE:=false,sG:=true,code:=code,h:={o.h with bytes:=[]}}
def Sd.giveUp(s:Sd)(k:Nat)(code:Int):Int×Sd:=
 if(s.out k).sG=true\/4611686018427387903<code then(3,s)else(0,{s with out:=ai s.out k ((s.out k).giveUp code)})
theorem HX(w:World)(l sb:Nat)(cs:Array Value)(v:aU)(s:Sd)(H:bB w l sb cs v s)(k:Nat)(f:k<4)(code:Int)(x:aV code):
 Calls prog 128 #[.pointer (some ⟨sb,0,none⟩),.int .i64 (k:Int),.int .u64 code] w λr m=>r=.returned (bN (s.giveUp k code).1)/\dO w.heap.size w l sb v (s.giveUp k code).2 m:=by
 have n:=H.out k f;have d:=J (qm w sb 0 (k:Int) H.kP);have e:eH 0 (k:Int)=0:=by unfold eH;simp;omega
 rw[e,vE]at d;clear e;have b:=J (λW(g:w.grownBy W none)=>xH W sb (19+9*k) (s.out k) ((n.tail H.aN).ao g));have p:=J (λW(g:w.grownBy W none)=>HJ (bA H.aN g) (n.ao g) ((H.ao g).vC k f) code x);have y:=J (λW z(g:w.grownBy W none) o h=>dO.pre (N:=w.heap.size) (cY.ao g) (((H.ao g).vD (W:=z) k f o h).mono g.size));have q:=J (λW(g:w.grownBy W none)=>H.to (N:=w.heap.size) g);have A:(k:Int)<4:=by omega
 have d1:decide ((k:Int)<4)=true:=bK A;rw[<-pB]at b p;unfold Sd.giveUp;cases hd:(s.out k).sG
 ·rw[hd]at b;by_cases i:4611686018427387903<code
  ·have d2:decide (code>4611686018427387903)=true:=bK i;rw[az (.inr i)];replace H:=J H;go_enter func128,ntmps128;go_wp2_with fail;refine(Z d).mono ?_;rintro e t⟨rfl,a⟩;go_wp2_with fail;refine(Z b _ a).mono ?_;rintro e u⟨rfl,c⟩;go_wp2_with fail;go_ret;exact⟨rfl,Z q _ (aq a c)⟩
  have d2:decide (code>4611686018427387903)=false:=bI i;rw[ah (by simp;omega)];replace H:=J H;go_enter func128,ntmps128;go_wp2_with fail;refine(Z d).mono ?_;rintro e t⟨rfl,a⟩;go_wp2_with fail;refine(Z b _ a).mono ?_;rintro e u⟨rfl,c⟩;go_wp2_with fail;refine(Z p _ (aq a c)).mono ?_;rintro e C⟨rfl,j⟩;rw[pB]at j;have B:=J (Z y _ _ (aq a c) _ j);clear j;go_wp2_with fail;go_ret;exact⟨rfl,Z B⟩
 rw[hd]at b;rw[az (.inl rfl)];replace H:=J H;go_enter func128,ntmps128;go_wp2_with fail;refine(Z d).mono ?_;rintro e t⟨rfl,a⟩;go_wp2_with fail;refine(Z b _ a).mono ?_;rintro e u⟨rfl,c⟩;go_wp2_with fail;go_ret;exact⟨rfl,Z q _ (aq a c)⟩
theorem AW(w:World)(sb:Nat)(aF k:Int)(dC:w.cell? ⟨sb,99,none⟩=some (.int .i64 aF))(h:eH aF k≠0):Calls prog 134 #[.pointer (some ⟨sb,0,none⟩),.int .i64 k] w λr c=>r=.returned (.tuple #[.int .i64 0,bN (eH aF k)])/\w.grownBy c none:=by
 have a:=J (qm w sb aF k dC);obtain⟨x,b⟩:=rQ h;rw[b]at a⊢;clear b h;go_enter func134,ntmps134;go_wp2_with fail;refine(Z a).mono ?_;rintro e f⟨rfl,d⟩;go_wp2_with fail;exact cA (v:=.tuple #[.int .i64 0,.iface 34 (.int .i64 x)]) (by simp[results,results134,go_sem,bN]) rfl ⟨rfl,d⟩
theorem HY(w:World)(d sb:Nat)(cs:Array Value)(v:aU)(s:Sd)(H:bB w d sb cs v s)(k:Nat)(f:k<4)(i:0<=(s.out k).h.fr/\(s.out k).h.fr<=4611686018427387903):
 Calls prog 134 #[.pointer (some ⟨sb,0,none⟩),.int .i64 (k:Int)] w λr j=>r=.returned (.tuple #[.int .i64 (s.out k).h.fr,.nilIface])/\w.grownBy j none:=by
 have l:=H.out k f;have a:=J (qm w sb 0 (k:Int) H.kP);have e:eH 0 (k:Int)=0:=by unfold eH;simp;omega
 rw[e,vE]at a;clear e;have b:=J (λW(g:w.grownBy W none)=>Gr W sb (19+9*k) (s.out k).h.fr (g.cell ((aX H.aN _).trans l.c0) (by simp)) i);have m:(k:Int)<4:=by omega
 have d1:decide ((k:Int)<4)=true:=bK m;rw[<-pB]at b;replace H:=J H;go_enter func134,ntmps134;go_wp2_with fail;refine(Z a).mono ?_;rintro e p⟨rfl,c⟩;go_wp2_with fail;refine(Z b _ c).mono ?_;rintro e q⟨rfl,n⟩;go_wp2_with fail;exact cA (v:=.tuple #[.int .i64 (s.out k).h.fr,.nilIface]) (by simp[results,results134,go_sem,bN]) rfl ⟨rfl,aq c n⟩
theorem AX(w:World)(sb:Nat)(aF k aE:Int)(dC:w.cell? ⟨sb,99,none⟩=some (.int .i64 aF))(h:eH aF k≠0):Calls prog 132 #[.pointer (some ⟨sb,0,none⟩),.int .i64 k,.int .i64 aE] w λr c=>r=.returned (.tuple #[.slice none 0 0,.int .i64 0,.int .u64 0,bN (eH aF k)])/\w.grownBy c none:=by
 have a:=J (qm w sb aF k dC);obtain⟨x,b⟩:=rQ h;rw[b]at a⊢;clear b h;go_enter func132,ntmps132;go_wp2_with fail;refine(Z a).mono ?_;rintro e f⟨rfl,d⟩;go_wp2_with fail;exact cA (v:=.tuple #[.slice none 0 0,.int .i64 0,.int .u64 0,.iface 34 (.int .i64 x)]) (by simp[results,results132,go_sem,bN]) rfl ⟨rfl,d⟩
theorem HZ(w:World)(f sb:Nat)(cs:Array Value)(v:aU)(s:Sd)(H:bB w f sb cs v s)(k:Nat)(m:k<4)(aE:Int)(z:(s.aJ k).h.nice)(A:0<=cO (s.aJ k).h/\cO (s.aJ k).h<=(s.aJ k).h.bytes.length):
 Calls prog 132 #[.pointer (some ⟨sb,0,none⟩),.int .i64 (k:Int),.int .i64 aE] w λr d=>∃a n c,r=.returned (.tuple #[.slice a n c,.int .i64 ((s.aJ k).state aE),.int .u64 (s.aJ k).jm,.nilIface])/\bm d w.heap.size (.slice a n c) ((s.aJ k).out aE)/\∃b,w.grownBy b none/\(∀j,(Value.slice a n c).ownBlock=some j->j<b.heap.size)/\dO b.heap.size b f sb v {s with aJ:=ai s.aJ k ((s.aJ k).read aE)} d:=by
 obtain⟨R,i⟩:∃R:Ending->World->Prop,R=λr d=>∃a n c,r=.returned (.tuple #[.slice a n c,.int .i64 ((s.aJ k).state aE),.int .u64 (s.aJ k).jm,.nilIface])/\bm d w.heap.size (.slice a n c) ((s.aJ k).out aE)/\∃b,w.grownBy b none/\(∀j,(Value.slice a n c).ownBlock=some j->j<b.heap.size)/\dO b.heap.size b f sb v {s with aJ:=ai s.aJ k ((s.aJ k).read aE)} d:=⟨_,rfl⟩
 rw[<-i];replace i:=J i;have B:=H.aJ k m;have t:=J (qm w sb 0 (k:Int) H.kP);have e:eH 0 (k:Int)=0:=by unfold eH;simp;omega
 rw[e,vE]at t;clear e;have u:=J (λW(g:w.grownBy W none)=>GQ W sb (55+9*k) f cs 241 _ _ (s.aJ k) (bA H.aN g) (B.ao g) z (bD H.aG g.size) ((H.ao g).xX k m) aE A);have C:=J (λW D(g:w.grownBy W none) o h=>(H.ao g).xY (W:=D) k m o h);have E:(k:Int)<4:=by omega
 have d1:decide ((k:Int)<4)=true:=bK E;rw[<-tF]at u;replace H:=J H;go_enter func132,ntmps132;go_wp2_with fail;refine(Z t).mono ?_;rintro e I⟨rfl,l⟩;go_wp2_with fail;refine(Z u _ l).mono ?_;rintro e F⟨a,n,c,b,rfl,x,p,y,q⟩;rw[tF]at q;have G:Hid (R (.returned (.tuple #[.slice a n c,.int .i64 ((s.aJ k).state aE),.int .u64 (s.aJ k).jm,.nilIface])) F):=J (by
  rw[Z i];exact⟨a,n,c,rfl,x.low l.size,b,aq l p,y,Z C _ _ (aq l p) _ q⟩)
 clear q x p y;go_wp2_with fail;exact cA (v:=.tuple #[.slice a n c,.int .i64 ((s.aJ k).state aE),.int .u64 (s.aJ k).jm,.nilIface]) (by simp[results,results132,go_sem,bN]) rfl (Z G)
def Sd.eN(s:Sd):Sd:=
 if s.aK.any (λx=>decide (s.wait<=s.tick+1-x.tick))then{s with aK:=[],lost:=s.lost++s.aK,tick:=s.tick+1,wait:=min (2*s.wait) 32}else{s with tick:=s.tick+1}
theorem any_map{l:List Kt}{f:Pk->Bool}:(l.map (·.1)).any f=true↔∃x∈l,f x.1=true:=by simp[qH]
theorem bB.iZ(H:bB w k i C D s):∀x∈D.lf,∃a n c,x.2=.slice a n c:=λx b=>by
 obtain⟨a,n,c,e,-⟩:=H.bq.fN x (iH _ b);exact⟨a,n,c,e⟩
theorem qP.ne{d:Value}(f:qP w W n T c C i x y z d)(h:z.ownBlock=x.ownBlock)(g:pq n x y)(j:∀k,x.ownBlock=some k->k<w.heap.size):∀k,z.ownBlock=some k->d.ownBlock≠some k:=λk a b=>by
 rw[h]at a;obtain e|e:=f.AN
 rw[e]at b;exact g.2.2 k a b;have:=e k b;have:=j k a;omega
theorem H0(w:World)(a sb:Nat)(cs:Array Value)(v:aU)(s:Sd)(H:bB w a sb cs v s)(hl:s.aK.length<=1000000/\s.lost.length<=50000000)(u:0<=s.tick/\s.tick<1000000000000)(b:∀x∈s.aK,0<=x.tick/\x.tick<=1000000000000)(y:0<=s.wait/\s.wait<=1000):
 Calls prog 129 #[.pointer (some ⟨sb,0,none⟩)] w λr c=>r=.returned (.tuple #[])/\dO w.heap.size w a sb v s.eN c:=by
 have m:=J (nQ w sb 0 H.kP);simp only[ne_eq,uD,s6]at m;have I:v.lf.length=s.aK.length:=by have:=fm List.length H.aK;rw[dA]at this;exact this.symm
 have K:v.ll.length=s.lost.length:=by have:=fm List.length H.lost;rw[dA]at this;exact this.symm
 have z:=J (λW(g:w.grownBy W none)=>Ho W sb 91 a cs 241 _ _ v.lf v.ll s.count s.tick s.wait (bA H.aN g) (H.ao g).fl (bD H.aG g.size) H.rP (by omega) H.iZ u (λx A=>b x.1 (by rw[H.aK];exact oR A)) y);have B:=J (λW i(g:w.grownBy W none)(h:((∃x∈v.lf,s.wait<=s.tick+1-x.1.tick)/\qk W i sb 241 cs 91 a (v.own 8) (v.own 9) [] (v.ll++v.lf) s.count (s.tick+1) (min (2*s.wait) 32))\/((¬∃x∈v.lf,s.wait<=s.tick+1-x.1.tick)/\qk W i sb 241 cs 91 a (v.own 8) (v.own 9) v.lf v.ll s.count (s.tick+1) s.wait))=>show dO w.heap.size w a sb v s.eN i by
  have d:=H.ao g;have n:s.aK.any (λx=>decide (s.wait<=s.tick+1-x.tick))=true↔∃x∈v.lf,s.wait<=s.tick+1-x.1.tick:=by rw[H.aK,any_map];simp
  refine dO.pre (cY.ao g) ?_;obtain⟨j,C,k,l,T,F,e⟩|⟨j,C,k,l,T,F,e⟩:=h
  have:=d.ya g.size k l [] (v.ll++v.lf) _ _ _ T F (T.ne e d.rP (d.bq.lt 8 (by omega))) (λx b=>.inl (by
   rw[jQ]at b;exact(bQ.1 b).elim (jO _) (iH _)))
  unfold Sd.eN;rw[az (n.2 j)];rw[show s.lost++s.aK=(v.ll++v.lf).map (·.1) by rw[mO,<-H.lost,<-H.aK]];exact this
  ·have:=d.ya g.size k l v.lf v.ll _ _ _ T F (T.ne e d.rP (d.bq.lt 8 (by omega))) (λx b=>.inl b);unfold Sd.eN;rw[ah (λD=>j (n.1 D))];have e2:({s with tick:=s.tick+1}:Sd)={s with aK:=v.lf.map (·.1),lost:=v.ll.map (·.1),count:=s.count,tick:=s.tick+1,wait:=s.wait}:=by rw[<-H.aK,<-H.lost]
   rw[e2];exact this)
 obtain⟨R,f⟩:=exq (λc:World=>dO w.heap.size w a sb v s.eN c);have p:(λ(r:Ending) c=>r=.returned (.tuple #[])/\dO w.heap.size w a sb v s.eN c)=λr c=>r=.returned (.tuple #[])/\R c:=by rw[f]
 rw[p];clear p;replace f:=J f;replace H:=J H;clear b;go_enter func129,ntmps129;go_wp2_with fail;refine(Z m).mono ?_;rintro e L⟨rfl,q⟩;go_wp2_with fail;refine(Z z _ q).mono ?_;rintro e E⟨rfl,t⟩;have G:Hid (R E):=J (by rw[Z f];exact Z B _ _ q t);clear t;go_wp2_with fail;exact eW (et rfl _ _ _) rfl ⟨rfl,Z G⟩
theorem H5(w:World)(sb:Nat)(aF:Int)(dC:w.cell? ⟨sb,99,none⟩=some (.int .i64 aF))(h:aF≠0):Calls prog 129 #[.pointer (some ⟨sb,0,none⟩)] w λr b=>r=.returned (.tuple #[])/\w.grownBy b none:=by
 have a:=J (nQ w sb aF dC);rw[bK h]at a;go_enter func129,ntmps129;go_wp2_with fail;refine(Z a).mono ?_;rintro e d⟨rfl,c⟩;go_wp2_with fail;exact eW (et rfl _ _ _) rfl ⟨rfl,c⟩
def Ot.fU(o:Ot)(p:Pc):Ot:=
 {o with tE:=o.tE||p.e,tG:=o.tG||p.g,h:=⟨o.h.fr+(cO ⟨o.h.fr,o.h.bytes,dv o.h.af p.x⟩).toNat,o.h.bytes.drop (cO ⟨o.h.fr,o.h.bytes,dv o.h.af p.x⟩).toNat,dv o.h.af p.x⟩}
def eB(out:Nat->Ot)(l:List (Int×Pc)):Nat->Ot:=l.foldl (λo x=>ai o x.1.toNat ((o x.1.toNat).fU x.2)) out
theorem Ic(out:Nat->Ot)(l:List (Int×Pc))(x:Int×Pc):eB out (l++[x])=ai (eB out l) x.1.toNat ((eB out l x.1.toNat).fU x.2):=by
 unfold eB;rw[List.foldl_append];rfl
theorem bh.AY(h:bh X)(lo hi:Int)(a:∀m,Sm X m->lo<=m/\m<hi):(X.length:Int)<=max 0 (hi-lo):=by
 induction X generalizing lo with
 |nil=>simp;omega
 |cons r X c=>
  have d:=h.2 r (by simp);have e:=a r.lo ((eu r X r.lo).2 (.inl ⟨cW _,d⟩));have f:=c h.tail (lo+1) (λm b=>by
   have g:=a m ((eu r X m).2 (.inr b));have i:=h.behind b;omega)
  simp only[dq]
  omega
structure fV(o:Ot):Prop where
 ok:bh o.h.af
 kQ:∀m,Sm o.h.af m->0<=m/\m<4096
 fr:0<=o.h.fr
 low:∀m,0<=m->m<o.h.fr->Sm o.h.af m
 hole:¬Sm o.h.af o.h.fr
 en:o.en<=4096
theorem fV.cl(h:fV f):f.h.af.length<=4096:=by
 have:=h.ok.AY 0 4096 h.kQ;omega
theorem fV.nice(h:fV f):f.h.nice:=by
 have a:=h.en;have b:=h.fr;have c:=h.cl;unfold Ot.en at a;exact⟨b,by omega,h.ok,by omega,by omega⟩
theorem AZ(h:bh X)(h0:∀m,Sm X m->0<=m)(a:¬(X.length=0\/0<(au X 0).lo)):(au X 0).lo=0/\0<(au X 0).hi/\(∀m,0<=m->m<(au X 0).hi->Sm X m)/\¬Sm X (au X 0).hi:=by
 cases X with
 |nil=>exact absurd (.inl rfl) a
 |cons r X=>
  have e:au (r::X) 0=r:=rfl;rw[e]at a⊢;have c:=h.2 r (by simp);have g:=h0 r.lo ((eu r X r.lo).2 (.inl ⟨cW _,c⟩));refine⟨by omega,by omega,λm i d=>(eu r X m).2 (.inl ⟨by omega,d⟩),λf=>?_⟩
  obtain b|b:=(eu r X r.hi).1 f
  omega;have:=h.behind b;omega
theorem A5(h:fV f)(hl:bh X)(hs:∀m,Sm f.h.af m->Sm X m)(c:∀m,Sm X m->0<=m/\m<4096):
 0<=cO ⟨f.h.fr,f.h.bytes,X⟩/\f.h.fr+cO ⟨f.h.fr,f.h.bytes,X⟩<=4096/\(∀m,0<=m->m<f.h.fr+cO ⟨f.h.fr,f.h.bytes,X⟩->Sm X m)/\¬Sm X (f.h.fr+cO ⟨f.h.fr,f.h.bytes,X⟩):=by
 have l:=h.fr;have n:=h.en;unfold Ot.en at n;unfold cO;simp only
 by_cases a:X.length=0\/0<(au X 0).lo;rw[az a];have d:¬Sm X 0:=λg=>by
  cases X with
  |nil=>exact fM 0 g
  |cons r X=>
   obtain a|a:=a
   simp at a;have e:au (r::X) 0=r:=rfl;rw[e]at a;obtain b|b:=(eu r X 0).1 g
   omega;have:=hl.behind b;have:=hl.2 r (by simp);omega
 have p:f.h.fr=0:=by
  obtain b|b:=Int.lt_or_eq_of_le l
  exact absurd (hs 0 (h.low 0 (cW _) b)) d;exact b.symm
 rw[p];exact⟨cW _,by omega,λm b q=>by omega,by simpa using d⟩
 rw[ah a];obtain⟨b,q,i,j⟩:=AZ hl (λm s=>(c m s).1) a;have k:f.h.fr<=(au X 0).hi:=by
  by_cases k:(au X 0).hi<f.h.fr;exact absurd (hs _ (h.low _ (by omega) k)) j;omega
 have u:=(c ((au X 0).hi-1) (i _ (by omega) (by omega))).2;refine⟨by omega,by omega,λm t v=>i m t (by omega),?_⟩
 rw[show f.h.fr+((au X 0).hi-f.h.fr)=(au X 0).hi by omega];exact j
def lr(p:Pc):Prop:=0<=p.x.lo/\0<=p.x.hi/\p.x.lo<=4096/\p.x.hi<=4096
theorem A7(h:fV f){p:Pc}(hp:lr p):∀m,Sm (dv f.h.af p.x) m->0<=m/\m<4096:=λm b=>by
 obtain a|a:=(jE p.x h.ok m).1 b
 exact h.kQ m a;unfold lr at hp;omega
theorem fV.fU(h:fV f){p:Pc}(hp:lr p):fV (f.fU p):=by
 have a:=mW p.x h.ok;have b:=A7 h hp;obtain⟨k,l,c,d⟩:=A5 h a (λm e=>(jE p.x h.ok m).2 (.inl e)) b;have n:=h.fr;have g:=h.en;unfold Ot.en at g;unfold Ot.fU;refine⟨a,b,by simp only;omega,λm i j=>c m i (by simp only at j;omega),?_,?_⟩
 simp only
 rw[show f.h.fr+((cO ⟨f.h.fr,f.h.bytes,dv f.h.af p.x⟩).toNat:Int)=f.h.fr+cO ⟨f.h.fr,f.h.bytes,dv f.h.af p.x⟩ by omega];exact d;unfold Ot.en;simp only[dF]
 omega
theorem yd{out:Nat->Ot}(h:∀k,k<4->fV (out k))(l:List (Int×Pc))(hl:∀x∈l,lr x.2):∀k,k<4->fV (eB out l k):=by
 induction l generalizing out with
 |nil=>exact h
 |cons x l b=>
  have e:eB out (x::l)=eB (ai out x.1.toNat ((out x.1.toNat).fU x.2)) l:=rfl;rw[e];refine b (λk a=>?_) (λy c=>hl y (by simp[c]));by_cases e:k=x.1.toNat;subst e;rw[bk];exact(h _ a).fU (hl x (by simp));rw[bl _ _ e];exact h k a
theorem Ie(q:w.heap[n]?=some (.cells c T (0,0)))(H:gz w j c i y z f)(a:fV f)(s:j<=w.heap.size)(t:kn w n y z)(p:Pc)(u:p.x.ok)(hp:lr p):
 Calls prog 252 #[.pointer (some ⟨n,i,none⟩),.agg (pA p)] w λr d=>r=.returned (.tuple #[])/\nL w d n T c i j y z (f.fU p)/\w.grownBy d (some n):=by
 have v:xL f.h p.x:=λA l _ b=>by
  have e:=vq a.ok l b;subst e;obtain⟨B,G,-⟩:=A5 a l (λm C=>(b m).2 (.inl C)) (A7 a hp);exact⟨B,by omega⟩
 refine(Ia q H a.nice s t p.x p.e p.g u v (by have:=a.cl;omega)).mono ?_;rintro r d⟨rfl,A,k,D,E,-,b,F,g⟩;have e:=vq a.ok E b;subst e;refine⟨rfl,?_,g⟩
 unfold Ot.fU;rw[<-D];simpa using F
structure lT(w:World)(base sb Bs:Nat)(cs0:Array Value)(v0:aU)(s:Sd)(acc:List (Int×Pc))(W:World)(cs:Array Value)(ob oc:Nat->Value):Prop where
 aN:W.heap[sb]?=some (.cells cs 241 (0,0))
 sz:cs.size=cs0.size
 same:∀i,(i<19\/(55<=i/\i<91)\/96<=i)->cs[i]?=cs0[i]?
 out:∀k,k<4->gz W base cs (19+9*k) (ob k) (oc k) (eB s.out acc k)
 qQ:∀k,k<4->(ob k).ownBlock=(v0.own k).ownBlock\/∀j,(ob k).ownBlock=some j->w.heap.size<=j
 rS:∀j k,j<4->k<4->j≠k->∀b,(ob j).ownBlock=some b->(ob k).ownBlock≠some b
 rT:∀k,k<4->oc k=v0.set k\/∀y n c,oc k=.slice (some y) n c->w.heap.size<=y.block/\y.block<W.heap.size/\∀j,j<4->(ob j).ownBlock≠some y.block
 size:w.heap.size<=W.heap.size
 box:W.heap[Bs]?=some (.cells #[.pointer (some ⟨sb,0,none⟩)] 169 (0,0))
def mm(w:World)(base sb Bs:Nat)(cs0:Array Value)(v0:aU)(s:Sd)(acc:List (Int×Pc))(W:World):Prop:=∃cs ob oc,lT w base sb Bs cs0 v0 s acc W cs ob oc
section
variable {w:World} {base sb Bs:Nat} {cs0:Array Value} {v0:aU} {s:Sd} {acc:List (Int×Pc)} {W W':World} {cs:Array Value} {ob oc:Nat->Value}
theorem bB.Ig(H:bB w base sb cs0 v0 s)(a:w.heap[Bs]?=some (.cells #[.pointer (some ⟨sb,0,none⟩)] 169 (0,0))):mm w base sb Bs cs0 v0 s [] w:=
 ⟨cs0,v0.own,v0.set,H.aN,rfl,λ_ _=>rfl,H.out,λ_ _=>.inl rfl,λj k c d b=>H.bq.sep j k (by omega) (by omega) b,λ_ _=>.inl rfl,aP _,a⟩
theorem A9(H:bB w base sb cs0 v0 s){k:Nat}(h:FT sb (v0.own 8) (v0.own 9) k):k<w.heap.size:=by
 obtain rfl|h|h:=h
 exact H.bq.ig;exact H.bq.lt 8 (by omega) k h;exact H.bq.lt 9 (by omega) k h
theorem nT{sb:Nat}{v0:aU}{k:Nat}(h:FT sb (v0.own 8) (v0.own 9) k):cg sb v0 k:=by
 obtain h|h|h:=h
 exact .inl h;exact .inr ⟨8,by omega,h⟩;exact .inr ⟨9,by omega,h⟩
theorem Ba(H:bB w base sb cs0 v0 s){i:Nat}(hi:i<8){k:Nat}(e:(v0.own i).ownBlock=some k):¬FT sb (v0.own 8) (v0.own 9) k:=λh=>by
 obtain rfl|h|h:=h
 exact H.bq.gO i (by omega) e;exact H.bq.sep i 8 (by omega) (by omega) (by omega) k e h;exact H.bq.sep i 9 (by omega) (by omega) (by omega) k e h
theorem lT.vF(H:bB w base sb cs0 v0 s)(h:lT w base sb Bs cs0 v0 s acc W cs ob oc){k:Nat}(c:k<4){j:Nat}(e:(ob k).ownBlock=some j):¬FT sb (v0.own 8) (v0.own 9) j:=λb=>by
 obtain a|a:=h.qQ k c
 rw[a]at e;exact Ba H (by omega) e b;have:=a j e;have:=A9 H b;omega
theorem lT.rU(H:bB w base sb cs0 v0 s)(h:lT w base sb Bs cs0 v0 s acc W cs ob oc){k:Nat}(d:k<4){y:Addr}{n c:Nat}(e:oc k=.slice (some y) n c):¬FT sb (v0.own 8) (v0.own 9) y.block/\y.block<W.heap.size:=by
 have f:=h.size;obtain a|a:=h.rT k d
 rw[a]at e;have:=H.bq.dK k (by omega) y n c e;exact⟨λb=>this.1 (nT b),by omega⟩
 have:=a y n c e;exact⟨λb=>by have:=A9 H b;omega,this.2.1⟩
theorem lT.Ih(H:bB w base sb cs0 v0 s)(h:lT w base sb Bs cs0 v0 s acc W cs ob oc){k:Nat}(f:k<4){y:Addr}{n c:Nat}(e:oc k=.slice (some y) n c)(j:Nat)(d:j<4):(ob j).ownBlock≠some y.block:=λe2=>by
 obtain a|a:=h.rT k f
 rw[a]at e;have:=H.bq.dK k (by omega) y n c e;obtain b|b:=h.qQ j d
 rw[b]at e2;exact this.1 (.inr ⟨j,by omega,e2⟩);have:=b _ e2;omega;exact(a y n c e).2.2 j d e2
theorem mm.df(H:bB w base sb cs0 v0 s)(d:¬FT sb (v0.own 8) (v0.own 9) Bs)(h:mm w base sb Bs cs0 v0 s acc W)(C:av W W' (FT sb (v0.own 8) (v0.own 9)))(f:lh W W' sb 91):mm w base sb Bs cs0 v0 s acc W':=by
 obtain⟨cs,ob,oc,h⟩:=h;obtain⟨g,l,m,hs⟩:=f cs _ h.aN;refine⟨g,ob,oc,l,m.trans h.sz,λi hi=>(hs i (by omega)).trans (h.same i hi),λk a=>(h.out k a).frame C (λi b p=>hs i (by omega)) (λj e=>h.vF H a e) (λy n c e=>h.rU H a e),h.qQ,h.rS,λk a=>(h.rT k a).imp id (λb y n c e=>⟨(b y n c e).1,bY (b y n c e).2.1 C.size,(b y n c e).2.2⟩),bD h.size C.size,?_⟩
 exact(C.block Bs (aY.1 h.box).1 d).trans h.box
theorem lT.apart(H:bB w base sb cs0 v0 s)(h:lT w base sb Bs cs0 v0 s acc W cs ob oc){k:Nat}(a:k<4):kn W sb (ob k) (oc k):=
 ⟨λe=>h.vF H a e (.inl rfl),λy n c e=>⟨λe2=>(h.rU H a e).1 (.inl e2),h.Ih H a e k a,(h.rU H a e).2⟩⟩
theorem lT.Bb(H:bB w base sb cs0 v0 s)(D:¬FT sb (v0.own 8) (v0.own 9) Bs)(h:lT w base sb Bs cs0 v0 s acc W cs ob oc){k:Nat}(O:k<4){p:Pc}(E:nL W W' sb 241 cs (19+9*k) base (ob k) (oc k) ((eB s.out acc k).fU p))(g:W.grownBy W' (some sb)):mm w base sb Bs cs0 v0 s (acc++[((k:Int),p)]) W'/\lq W W' sb 91:=by
 obtain⟨v,l,G,T,I,F⟩:=E;have C:av W W' (λj=>j=sb):=(av.of g).mono (λj _ e=>(aO e).symm);have q:FT sb (v0.own 8) (v0.own 9) sb:=.inl rfl;have r:∀j,j<4->∀b,(ob j).ownBlock=some b->b<W.heap.size:=λj d b e=>((h.out j d).own.lt b e).2
 have K:=h.size;have t:∀b,l.ownBlock=some b->(ob k).ownBlock=some b\/W.heap.size<=b:=λb e=>by
  obtain a|a:=T.new
  rw[a]at e;exact .inl e;exact .inr (a b e)
 refine⟨⟨v,ai ob k l,ai oc k G,T.aN,T.sz.trans h.sz,λi hi=>(T.out i (by omega)).trans (h.same i hi),λj d=>?_,λj d=>?_,λi j hi d u b e1 e2=>?_,λj d=>?_,bD K C.size,?_⟩,?_⟩
 rw[Ic];simp only[nE]
 by_cases e:j=k;subst e;simp only[bk];exact I;simp only[bl _ _ e]
 exact(h.out j d).frame C (λi a x=>T.out i (by omega)) (λb e e2=>h.vF H d e (e2▸q)) (λy n c e=>⟨λe2=>(h.rU H d e).1 (e2▸q),(h.rU H d e).2⟩);by_cases e:j=k;subst e;rw[bk];obtain a|a:=T.new
 rw[a];exact h.qQ j d;exact .inr (λb e=>by have:=a b e;omega);rw[bl _ _ e];exact h.qQ j d;by_cases f:i=k;have m:j≠k:=by omega
 subst f;rw[bk]at e1;rw[bl _ _ m]at e2;obtain a|a:=t b e1
 exact h.rS i j hi d u b a e2;have:=r j d b e2;omega;rw[bl _ _ f]at e1;by_cases m:j=k;subst m;rw[bk]at e2;obtain a|a:=t b e2
 exact h.rS i j hi d u b e1 a;have:=r i hi b e1;omega;rw[bl _ _ m]at e2;exact h.rS i j hi d u b e1 e2;have L:∀y:Addr,y.block<W.heap.size->(∀i,i<4->(ob i).ownBlock≠some y.block)->∀i,i<4->(ai ob k l i).ownBlock≠some y.block:=λy P z i hi e=>by
  by_cases f:i=k;subst f;rw[bk]at e;obtain a|a:=t _ e
  exact z i hi a;omega;rw[bl _ _ f]at e;exact z i hi e
 have A:∀j,j<4->(oc j=v0.set j\/∀y n c,oc j=.slice (some y) n c->w.heap.size<=y.block/\y.block<W'.heap.size/\∀i,i<4->(ai ob k l i).ownBlock≠some y.block):=λj d=>(h.rT j d).imp id (λa y n c e=>⟨(a y n c e).1,bY (a y n c e).2.1 C.size,L y (a y n c e).2.1 (a y n c e).2.2⟩)
 by_cases e:j=k;subst e;rw[bk];obtain a|a:=F
 rw[a];exact A j d;refine .inr (λy n c e=>?_);obtain⟨x,M,N⟩:=a y n c e;refine⟨by omega,M,λi hi e2=>?_⟩
 by_cases f:i=j;subst f;rw[bk]at e2;exact N e2;rw[bl _ _ f]at e2;have:=r i hi _ e2;omega;rw[bl _ _ e];exact A j d;exact(C.block Bs (aY.1 h.box).1 (λe=>D (e▸q))).trans h.box;intro Q t2 B;rw[h.aN]at B;cases B;exact⟨v,T.aN,T.sz,λi a x=>T.out i (by omega)⟩
theorem mm.whole(H:bB w base sb cs0 v0 s)(bt:¬FT sb (v0.own 8) (v0.own 9) Bs){D l:World}(h:mm w base sb Bs cs0 v0 s acc D)(X:av D l (FT sb (v0.own 8) (v0.own 9)))(hS:lh D l sb 91){G:Array Value}{Q I:Value}{u v:List Kt}{count tick wait:Int}(Y:l.heap[sb]?=some (.cells G 241 (0,0)))(F:iA l base G 91 Q I u v count tick wait)(C:av w l (FT sb (v0.own 8) (v0.own 9)))(nf:Q.ownBlock=(v0.own 8).ownBlock)(nl:I.ownBlock=(v0.own 9).ownBlock\/∀k,I.ownBlock=some k->D.heap.size<=k)(hm:∀x∈u++v,x∈v0.lf++v0.ll):
 dO w.heap.size w base sb v0 {s with out:=eB s.out acc,aK:=u.map (·.1),lost:=v.map (·.1),count:=count,tick:=tick,wait:=wait} l:=by
 obtain⟨bb,ob,oc,p⟩:=id h;have bx:=p.size;have R:w.heap.size<=l.heap.size:=C.size;obtain⟨bz,al,bj,ax⟩:=hS bb _ p.aN;rw[Y]at al;cases al;have aC:∀k,k<4->gz l base G (19+9*k) (ob k) (oc k) (eB s.out acc k):=λk q=>(p.out k q).frame X (λi b g=>ax i (by omega)) (λj e=>p.vF H q e) (λy n c e=>p.rU H q e)
 have hsame:∀i,(i<19\/(55<=i/\i<91)\/96<=i)->G[i]?=cs0[i]? :=λi hi=>(ax i (by omega)).trans (p.same i hi)
 have a0:∀k,k<4->∀j,(ob k).ownBlock=some j->j<D.heap.size:=λk q j e=>((p.out k q).own.lt j e).2
 obtain⟨m,S⟩:∃f:Nat->Value,f=λi=>if i<4 then ob i else if i=8 then Q else if i=9 then I else v0.own i:=⟨_,rfl⟩
 obtain⟨z,a1⟩:∃f:Nat->Value,f=λi=>if i<4 then oc i else v0.set i:=⟨_,rfl⟩
 have A:∀i,i<4->m i=ob i:=λi hi=>by rw[S];simp[hi]
 have K:∀i,4<=i->i<8->m i=v0.own i:=λi b g=>by rw[S];simp only;rw[ah (by omega),ah (by omega),ah (by omega)]
 have L:m 8=Q:=by rw[S];simp
 have M:m 9=I:=by rw[S];simp
 have s4:∀i,i<4->z i=oc i:=λi hi=>by rw[a1];simp[hi]
 have s5:∀i,4<=i->z i=v0.set i:=λi hi=>by rw[a1];simp only;rw[ah (by omega)]
 have T:∀i,i<10->i<4\/(4<=i/\i<8)\/i=8\/i=9:=λi hi=>by omega
 have N:∀i,i<10->∀k,(m i).ownBlock=some k->(v0.own i).ownBlock=some k\/w.heap.size<=k:=λi hi k e=>by
  obtain b|b|rfl|rfl:=T i hi
  rw[A i b]at e;obtain g|g:=p.qQ i b
  rw[g]at e;exact .inl e;exact .inr (g k e);rw[K i b.1 b.2]at e;exact .inl e;rw[L,nf]at e;exact .inl e;rw[M]at e;obtain g|g:=nl
  rw[g]at e;exact .inl e;have:=g k e;exact .inr (by omega)
 have U:∀k,cg sb ⟨m,z,u,v⟩ k->cg sb v0 k\/w.heap.size<=k:=λk d=>by
  obtain d|⟨i,hi,d⟩:=d
  exact .inl (.inl d);obtain b|b:=N i hi k d
  exact .inl (.inr ⟨i,hi,b⟩);exact .inr b
 have br:∀i,i<10->∀k,(m i).ownBlock=some k->k<l.heap.size:=λi hi k e=>by
  obtain b|b|rfl|rfl:=T i hi
  rw[A i b]at e;exact((aC i b).own.lt k e).2;rw[K i b.1 b.2]at e;exact bY (H.bq.lt i hi k e) R;rw[L]at e;exact(F.of.lt k e).2;rw[M]at e;exact(F.ol.lt k e).2
 have a3:∀i,i<9->∀y n c,z i=.slice (some y) n c->(¬cg sb ⟨m,z,u,v⟩ y.block/\y.block<l.heap.size)/\(v0.set i=.slice (some y) n c\/w.heap.size<=y.block):=λi hi y n c e=>by
  have a4:v0.set i=.slice (some y) n c->(¬cg sb ⟨m,z,u,v⟩ y.block/\y.block<l.heap.size)/\(v0.set i=.slice (some y) n c\/w.heap.size<=y.block):=λe=>by
   have b:=H.bq.dK i hi y n c e;exact⟨⟨λd=>(U _ d).elim b.1 (by omega),by omega⟩,.inl e⟩
  by_cases b:i<4;rw[s4 i b]at e;obtain g|g:=p.rT i b
  rw[g]at e;exact a4 e;have V:=g y n c e;refine⟨⟨λd=>?_,bY V.2.1 X.size⟩,.inr V.1⟩
  obtain d|⟨j,r,d⟩:=d
  have:=H.bq.ig;omega;simp only at d;obtain t|t|rfl|rfl:=T j r
  rw[A j t]at d;exact V.2.2 j t d;rw[K j t.1 t.2]at d;have:=H.bq.lt j r _ d;omega;rw[L,nf]at d;have:=H.bq.lt 8 r _ d;omega;rw[M]at d;obtain B|B:=nl
  rw[B]at d;have:=H.bq.lt 9 r _ d;omega;have:=B _ d;omega;rw[s5 i (by omega)]at e;exact a4 e
 have hG:jn l sb ⟨m,z,u,v⟩:=by
  refine⟨bY H.bq.ig R,br,λi hi e=>?_,λi j hi r a8 k e1 e2=>?_,λi hi y n c e=>(a3 i hi y n c e).1,λx W=>?_⟩
  obtain b|b:=N i hi sb e
  exact H.bq.gO i hi b;have:=H.bq.ig;omega;simp only at e1 e2;obtain b|b:=N i hi k e1
  obtain g|g:=N j r k e2
  exact H.bq.sep i j hi r a8 k b g;have:=H.bq.lt i hi k b;omega;obtain g|g:=N j r k e2
  have:=H.bq.lt j r k g;omega
  ·
   have a9:∀i,i<10->(m i).ownBlock=some k->i<4\/(i=9/\D.heap.size<=k):=λi hi e=>by
    obtain t|t|rfl|rfl:=T i hi
    exact .inl t;rw[K i t.1 t.2]at e;have:=H.bq.lt i hi k e;omega;rw[L,nf]at e;have:=H.bq.lt 8 hi k e;omega;rw[M]at e;obtain B|B:=nl
    rw[B]at e;have:=H.bq.lt 9 hi k e;omega;exact .inr ⟨rfl,B k e⟩
   obtain O|⟨O,a2⟩:=a9 i hi e1<;>rcases a9 j r e2 with b1|⟨b1,b2⟩
   rw[A i O]at e1;rw[A j b1]at e2;exact p.rS i j O b1 a8 k e1 e2
   rw[A i O]at e1;have:=a0 i O k e1;omega
   rw[A j b1]at e2;have:=a0 j b1 k e2;omega
   omega
  obtain⟨a,n,c,e,hp,P⟩:=H.bq.fN x (hm x W);exact⟨a,n,c,e,hp.df (λ_ y E=>C.block _ (P y E).2 (λht=>(P y E).1 (nT ht))),λy E=>⟨λd=>(U _ d).elim (P y E).1 (by have:=(P y E).2;omega),bY (P y E).2 R⟩⟩
 refine⟨G,⟨m,z,u,v⟩,⟨Y,bj.trans (p.sz.trans H.sz),(hsame 0 (by omega)).trans H.c0,(hsame 1 (by omega)).trans H.c1,λi hi=>(hsame _ (by omega)).trans (H.key i hi),(hsame 18 (by omega)).trans H.ij,λk q=>?_,λk q=>?_,?_,rfl,rfl,?_,?_,(hsame 97 (by omega)).trans H.oF,(hsame 98 (by omega)).trans H.kO,(hsame 99 (by omega)).trans H.dC,(hsame 100 (by omega)).trans H.py,hG,bD H.aG R⟩,⟨C.mono (λk _ d=>nT d),U,λk d=>?_⟩⟩
 simp only;rw[A k q,s4 k q];exact aC k q;simp only;rw[K (4+k) (by omega) (by omega),s5 (4+k) (by omega)];exact(H.aJ k q).frame C (λi b g=>hsame i (by omega)) (λj e=>Ba H (by omega) e) (λy n c e=>⟨λd=>(H.bq.dK (4+k) (by omega) y n c e).1 (nT d),(H.bq.dK (4+k) (by omega) y n c e).2⟩);simp only;rw[L,M];exact F;simp only;rw[s5 8 (by omega)];exact(hsame 96 (by omega)).trans H.nN;simp only;rw[s5 8 (by omega)];exact pt H.nP C (λy n c e=>⟨λd=>(H.bq.dK 8 (by omega) y n c e).1 (nT d),(H.bq.dK 8 (by omega) y n c e).2⟩);obtain d|⟨i,y,n,c,hi,e,rfl⟩|⟨x,W,y,n,c,e,rfl⟩:=d
 exact(U k d).imp .inl id;obtain b|b:=(a3 i hi y n c e).2
 exact .inl (.inr (.inl ⟨i,y,n,c,hi,b,rfl⟩));exact .inr b;exact .inl (.inr (.inr ⟨x,hm x W,y,n,c,e,rfl⟩))
end
section
variable {w:World} {base sb Bs:Nat} {cs0:Array Value} {v0:aU} {s:Sd} {acc:List (Int×Pc)} {W W':World} {cs:Array Value} {ob oc:Nat->Value}
theorem lT.ao(h:lT w base sb Bs cs0 v0 s acc W cs ob oc)(g:W.grownBy W' none):lT w base sb Bs cs0 v0 s acc W' cs ob oc:=
 ⟨bA h.aN g,h.sz,h.same,λk a=>(h.out k a).ao g,h.qQ,h.rS,λk a=>(h.rT k a).imp id (λb y n c e=>⟨(b y n c e).1,bY (b y n c e).2.1 g.size,(b y n c e).2.2⟩),bD h.size g.size,bA h.box g⟩
end
theorem tM{w:World}{p:Addr}{v:Value}{sb:Nat}(h:w.cell? p=some v)(a:p.block≠sb):∀W,w.grownBy W (some sb)->W.cell? p=some v:=λ_ g=>g.cell h (λe=>a (aO e))
theorem lq.pre{W a W':World}{sb b:Nat}{cs:Array Value}{t:TypeId}(e:W.heap[sb]?=some (.cells cs t (0,0)))(g:W.grownBy a none)(h:lq a W' sb b):lq W W' sb b:=λc t2 d=>h c t2 (bA d g)
theorem I5(w:World)(base sb Bs:Nat)(cs0:Array Value)(v0:aU)(s:Sd)(H:bB w base sb cs0 v0 s)(m:¬FT sb (v0.own 8) (v0.own 9) Bs)(acc:List (Int×Pc))(W:World)(h:mm w base sb Bs cs0 v0 s acc W)(v:∀k,k<4->fV (eB s.out acc k))(k:Nat)(b:k<4)(p:Pc)(L:p.x.ok)(hp:lr p):
 Calls prog 251 #[.int .i64 (k:Int),.agg (pA p),.pointer (some ⟨Bs,0,none⟩)] W λe W'=>e=.returned (.tuple #[])/\mm w base sb Bs cs0 v0 s (acc++[((k:Int),p)]) W'/\W.grownBy W' (some sb)/\lq W W' sb 91:=by
 obtain⟨cs,ob,oc,h⟩:=h;have M:base<=W.heap.size:=bD H.aG h.size;have n:=J (λa(g:W.grownBy a none)=>(Ie (h.ao g).aN ((h.ao g).out k b) (v k b) (bD M g.size) ((h.ao g).apart H b) p L hp));have q:=J (λa c(g:W.grownBy a none)(d:nL a c sb 241 cs (19+9*k) base (ob k) (oc k) ((eB s.out acc k).fU p))(r:a.grownBy c (some sb))=>(show mm w base sb Bs cs0 v0 s (acc++[((k:Int),p)]) c/\W.grownBy c (some sb)/\lq W c sb 91 from⟨((h.ao g).Bb H m b d r).1,aq (cX g _) r,lq.pre h.aN g ((h.ao g).Bb H m b d r).2⟩));have N:=(pD h.box).1;rw[<-pB]at n q;have O:(k:Int)<4:=by omega
 have d1:decide ((k:Int)<4)=true:=bK O;obtain⟨R,f⟩:=exq (λW':World=>mm w base sb Bs cs0 v0 s (acc++[((k:Int),p)]) W'/\W.grownBy W' (some sb)/\lq W W' sb 91);have y:(λ(e:Ending) W'=>e=.returned (.tuple #[])/\mm w base sb Bs cs0 v0 s (acc++[((k:Int),p)]) W'/\W.grownBy W' (some sb)/\lq W W' sb 91)=λe W'=>e=.returned (.tuple #[])/\R W':=by rw[f]
 rw[y];clear y;replace f:=J f;replace h:=J h;replace H:=J H;clear v;obtain⟨V,z⟩:=exq ((eB s.out acc k).fU p);rw[<-z]at n q;clear z;obtain⟨⟨A,B⟩,C,D⟩:=p;unfold pA at *;simp only at *;obtain⟨a,i⟩:=exq (W.alloc (.cells #[.int .u64 A,.int .u64 B,.bool C,.bool D] 377));have t:W.grownBy a none:=by rw[i];exact aH _ _ _
 have u:a.heap[W.heap.size]?=some (.cells #[.int .u64 A,.int .u64 B,.bool C,.bool D] 377 (0,0)):=by rw[i];exact aM _ _
 have j:W.heap.size≠sb:=by have:=(aY.1 (Z h).aN).1;omega
 have P:Bs≠sb:=λe=>m (.inl e)
 have X:=tM (sb:=sb) (t.cell N (by simp)) P;obtain⟨E,F,G,I⟩:=pF u;replace E:=tM (sb:=sb) E j;replace F:=tM (sb:=sb) F j;replace G:=tM (sb:=sb) G j;replace I:=tM (sb:=sb) I j;replace u:=J u;have l:a.grownBy a.drew none:=aW (aB _ none);go_enter func251,ntmps251;go_upto_region 1 with fail;rw[<-i];clear i;go_region_held3 (λQ=>a.grownBy Q (some sb))
  (first|with_reducible exact S|with_reducible exact cX l _)
  (first|(go_at_call 252;refine(Z n _ (aq t l)).mono ?_;rintro e T⟨rfl,d,K⟩;have S:=aq (cX l (some sb)) K;have U:Hid (R T):=J (by rw[Z f];exact Z q _ _ (aq t l) d K);clear d))
 go_wp2_with fail;exact eW (et rfl _ _ _) rfl ⟨rfl,Z U⟩
def kS(o:Ot)(p:Pc):Bool:=(decide (p.x.hi<=p.x.lo)||o.h.af.any (λr=>decide (r.lo<=p.x.lo)&&decide (p.x.hi<=r.hi)))&&(((o.uE&& !p.e)==o.uE)&&((o.uG&& !p.g)==o.uG))
theorem BD(o:Ot)(p:Pc):kS o p=true↔tz o p.x p.e p.g:=by
 unfold kS tz;simp only[mg,Bool.or_eq_true,nA,qH,beq_iff_eq]
theorem I6(W:World)(D sb j:Nat)(cs:Array Value)(t:TypeId)(vb vc:Value)(o:Ot)(k:Nat)(M:k<4)(b:W.heap[sb]?=some (.cells cs t (0,0)))(H:gz W D cs (19+9*k) vb vc o)(E:o.h.nice)(F:W.cell? ⟨j,0,none⟩=some (.pointer (some ⟨sb,0,none⟩)))(p:Pc):
 Calls prog 255 #[.int .i64 (k:Int),.agg (pA p),.pointer (some ⟨j,0,none⟩)] W λe G=>e=.returned (.bool (kS o p))/\W.grownBy G none:=by
 obtain⟨ab,nb,cb,ac,nc,cc,rfl,rfl⟩:=H.mY;have l:=J (λa(g:W.grownBy a none)=>GA a sb (19+9*k) ab nb cb ac nc cc o ((H.ao g).hd (bA b g) E) ((H.ao g).tail (bA b g)) p.x p.e p.g);rw[<-pB]at l;have I:(k:Int)<4:=by omega
 have d1:decide ((k:Int)<4)=true:=bK I;have m:=J (BD o p);obtain⟨q,n⟩:=exq (kS o p);rw[<-n]at m⊢;clear n;obtain⟨⟨r,s⟩,u,v⟩:=p;unfold pA at *;simp only at *;obtain⟨a,c⟩:=exq (W.alloc (.cells #[.int .u64 r,.int .u64 s,.bool u,.bool v] 377));have d:W.grownBy a none:=by rw[c];exact aH _ _ _
 have f:a.heap[W.heap.size]?=some (.cells #[.int .u64 r,.int .u64 s,.bool u,.bool v] 377 (0,0)):=by rw[c];exact aM _ _
 have N:=kc (d.cell F (by simp));obtain⟨w,y,z,A⟩:=pF f;replace w:=kc w;replace y:=kc y;replace z:=kc z;replace A:=kc A;replace f:=J f;replace b:=J b;replace H:=J H;have i:a.grownBy a.drew none:=aW (aB _ none);go_enter func255,ntmps255;go_upto_region 1 with fail;rw[<-c];clear c;go_region_held3 (λK=>a.grownBy K none)
  (first|with_reducible exact B|with_reducible exact i)
  (first|(go_at_call 256;refine(Z l _ (aq d i)).mono ?_;rintro e O⟨C,L⟩;obtain rfl:=rO C (Z m);have B:=aq i L;clear C))
 go_wp2_with fail;go_ret;exact⟨rfl,aq d B⟩
def m9(q:Pk->Bool)(l:List Pk):List (Int×Pc):=l.flatMap (λx=>if q x then x.ps.map (λp=>(x.st,p))else[])
theorem BF(q:Pk->Bool)(l:List Kt):kN (λx=>q x.1) l=m9 q (l.map (·.1)):=by
 unfold kN m9;rw[List.flatMap_map]
theorem r9(q:Pk->Bool)(l:List Kt):(l.filter (λx=>q x.1)).map (·.1)=(l.map (·.1)).filter q:=by
 induction l with
 |nil=>rfl
 |cons x l a=>
  simp only[List.filter_cons,ki]
  split<;>simp_all
theorem I7(q:Pk->Bool)(l:List Kt):l.any (λx=>q x.1)=(l.map (·.1)).any q:=by rw[List.any_map];rfl
def Sd.eE(s:Sd)(l:List Rg):Sd:=
 {s with out:=eB s.out (m9 (λx=>bL l x.num) s.aK++m9 (λx=>bL l x.num) s.lost),aK:=(s.aK.filter (λx=> !bL l x.num)).filter (λx=> !decide (x.num+3<=(au l 0).hi)),lost:=s.lost.filter (λx=> !bL l x.num)++(s.aK.filter (λx=> !bL l x.num)).filter (λx=>decide (x.num+3<=(au l 0).hi)),wait:=if s.aK.any (λx=>bL l x.num)then 4 else s.wait}
def Sd.forget(s:Sd):Sd:={s with lost:=s.lost.filter (λx=> !x.ps.all (kS (s.out x.st.toNat)))}
def Sd.dT(s:Sd)(l:List Rg):Sd:=(s.eE l).forget
structure lV(s:Sd):Prop where
 out:∀k,k<4->fV (s.out k)
 pk:∀x∈s.aK++s.lost,0<=x.st/\x.st<4/\∀p∈x.ps,lr p
 num:∀x∈s.aK,0<=x.num/\x.num<=4611686018427387000
theorem BG{q:Pk->Bool}{l:List Pk}{y:Int×Pc}(h:y∈m9 q l):∃x∈l,y.1=x.st/\y.2∈x.ps:=by
 unfold m9 at h;obtain⟨x,b,a⟩:=uI.1 h;split at a;obtain⟨p,hp,rfl⟩:=eQ.1 a;exact⟨x,b,rfl,hp⟩
 cases a
theorem lV.eE(h:lV s)(l:List Rg):lV (s.eE l):=by
 refine⟨yd h.out _ (λy b=>?_),λx a=>?_,λx a=>?_⟩
 obtain b|b:=bQ.1 b
 obtain⟨x,a,-,c⟩:=BG b;exact(h.pk x (iH _ a)).2.2 _ c;obtain⟨x,a,-,c⟩:=BG b;exact(h.pk x (jO _ a)).2.2 _ c;unfold Sd.eE at a;simp only[bQ,iy]at a;refine h.pk x (bQ.2 ?_);obtain a|a|a:=a
 exact .inl a.1.1;exact .inr a.1;exact .inl a.1.1;unfold Sd.eE at a;simp only[iy]at a;exact h.num x a.1.1
theorem I8(H:bB w k i C D s){x:Kt}(b:x∈D.lf++D.ll){p:Pc}(hp:p∈x.1.ps):p.x.ok:=by
 obtain⟨a,n,c,-,h,-⟩:=H.bq.fN x b;exact h.1 p hp
theorem lV.kt(h:lV s)(H:bB w n k c D s){x:Kt}(a:x∈D.lf++D.ll):0<=x.1.st/\x.1.st<4/\∀p∈x.1.ps,lr p:=by
 refine h.pk x.1 ?_;rw[H.aK,H.lost,<-mO];exact oR a
theorem I9(w:World)(f sb b:Nat)(cs:Array Value)(v:aU)(s:Sd)(H:bB w f sb cs v s)(hp:lV s)(t:w.heap[b]?=some (.cells #[.pointer (some ⟨sb,0,none⟩)] 169 (0,0)))(B:¬cg sb v b):
 Calls prog 254 #[.pointer (some ⟨sb,91,none⟩),.func (.func 255) #[] #[.pointer (some ⟨b,0,none⟩)]] w λe q=>e=.returned (.tuple #[])/\dO w.heap.size w f sb v s.forget q:=by
 have g:=H.rP;refine(HG w sb 91 f cs 241 _ _ v.lf v.ll s.count s.tick s.wait H.aN H.fl g (cg sb v) (λk l=>nT l) (H.bq.fN.sub (λx a=>jO _ a)) 255 #[.pointer (some ⟨b,0,none⟩)] (λst p=>kS (s.out st.toNat) p) (enters_of func255 (by kernel_rfl) rfl) (λW x p C a I=>?_)).mono ?_;obtain⟨K,L,-⟩:=hp.kt H (jO _ a);have l:x.1.st.toNat<4:=by omega
 have e:x.1.st=((x.1.st.toNat:Nat):Int):=by omega
 have u:∀j,(v.own 9).ownBlock=some j->cg sb v j:=λj e=>.inr ⟨9,by omega,e⟩
 have D:W.heap[sb]?=some (.cells cs 241 (0,0)):=(C.block sb H.bq.ig (λe=>g.2.1 e)).trans H.aN;have r:=(H.out _ l).frame C (cs':=cs) (λ_ _ _=>rfl) (λj e1 e2=>H.bq.sep _ 9 (by omega) (by omega) (by omega) j e1 e2) (λy n c e1=>⟨λe2=>(H.bq.dK _ (by omega) y n c e1).1 (u _ e2),(H.bq.dK _ (by omega) y n c e1).2⟩);have E:W.heap[b]?=some (.cells #[.pointer (some ⟨sb,0,none⟩)] 169 (0,0)):=(C.block b (aY.1 t).1 (λe=>B (u _ e))).trans t;have:=I6 W f sb b cs 241 _ _ _ _ l D r (hp.out _ l).nice (pD E).1 p;rw[<-e]at this;exact this;rintro e q⟨rfl,d,F,r,A,C⟩;refine⟨rfl,?_⟩
 have z:(95:Nat)<cs.size:=by rw[H.sz];omega
 have m:∀i,i≠95->(cs.setIfInBounds (91+4) d)[i]?=cs[i]? :=λi h=>bC (by omega)
 have G:qP w q sb 241 cs (cs.setIfInBounds (91+4) d) 91 (v.own 8) (v.own 9) (v.own 8) d:=⟨F,by simp,λi hi=>m i (by omega),C.mono (λk _ h=>h.elim .inl (λh=>.inr (.inr h))),.inl rfl,.inl A⟩
 have hF:iA q f (cs.setIfInBounds (91+4) d) 91 (v.own 8) d v.lf (v.ll.filter (λx=> !x.1.ps.all (kS (s.out x.1.st.toNat)))) s.count s.tick s.wait:=
  ⟨(m _ (by omega)).trans H.fl.c0,(m _ (by omega)).trans H.fl.c1,(m _ (by omega)).trans H.fl.c2,(m _ (by omega)).trans H.fl.c3,cB (by omega),H.fl.of.aw C (λj e h=>h.elim (λh=>g.1 (h▸e)) (λh=>g.2.2 j e h)),r⟩
 have:=H.ya (aP _) (v.own 8) d v.lf _ _ _ _ G hF (λk e=>by rw[A];exact g.2.2 k e) (λx a=>.inl (by
  obtain a|a:=bQ.1 a
  exact iH _ a
  ·exact jO _ (iy.1 a).1))
 have e2:({s with aK:=v.lf.map (·.1),lost:=(v.ll.filter (λx=> !x.1.ps.all (kS (s.out x.1.st.toNat)))).map (·.1),count:=s.count,tick:=s.tick,wait:=s.wait}:Sd)=s.forget:=by
  unfold Sd.forget;rw[r9 (λx=> !x.ps.all (kS (s.out x.st.toNat))),<-H.aK,<-H.lost]
 rw[<-e2];exact this
def tN(w:World)(b sb:Nat)(v:aU)(s:Sd)(l:List Rg)(e:Ending)(a:World):Prop:=
 (s.count<=(au l 0).hi/\e=.returned (bN 8)/\w.grownBy a none)\/((au l 0).hi<s.count/\e=.returned .nilIface/\dO w.heap.size w b sb v (s.dT l) a)
theorem Ja(w:World)(i sb c:Nat)(cs:Array Value)(v:aU)(s:Sd)(H:bB w i sb cs v s)(hp:lV s)(R:s.aK.length<=1000000/\s.lost.length<=40000000)(D:w.heap[c]?=some (.cells #[.pointer (some ⟨sb,0,none⟩)] 169 (0,0)))(E:¬cg sb v c)(a:Option Addr)(n cap:Nat)(l:List Rg)(hs:bu w a n cap l)(hl:0<l.length)(z:∀y,a=some y->¬cg sb v y.block/\y.block<w.heap.size):
 Calls prog 253 #[.pointer (some ⟨sb,91,none⟩),.slice a n cap,.func (.func 251) #[] #[.pointer (some ⟨c,0,none⟩)]] w λe j=>(s.count<=(au l 0).hi/\e=.returned (.iface 34 (.int .i64 8))/\w.grownBy j none)\/((au l 0).hi<s.count/\e=.returned .nilIface/\dO w.heap.size w i sb v (s.eE l) j/\av w j (FT sb (v.own 8) (v.own 9))):=by
 have S:v.lf.length=s.aK.length:=by have:=fm List.length H.aK;rw[dA]at this;exact this.symm
 have T:v.ll.length=s.lost.length:=by have:=fm List.length H.lost;rw[dA]at this;exact this.symm
 have q:¬FT sb (v.own 8) (v.own 9) c:=λh=>E (nT h)
 refine(HB w sb 91 i cs 241 _ _ v.lf v.ll s.count s.tick s.wait H.aN H.fl H.aG H.rP (by omega) (cg sb v) (λk t=>nT t) H.bq.fN a n cap l hs hl (λy A=>⟨λh=>(z y A).1 (nT h),(z y A).2⟩) (λx b=>by
  have:=hp.num x.1 (by rw[H.aK];exact oR b);omega) 251 #[.pointer (some ⟨c,0,none⟩)] (enters_of func251 (by kernel_rfl) rfl)
  (λf W=>mm w i sb c cs v s f W/\∀y∈f,lr y.2) ⟨H.Ig D,λy d=>(by cases d)⟩ (λW G f h C I=>⟨h.1.df H q C I,h.2⟩) (λW f x p h b u U=>?_)).mono ?_
 obtain⟨m,V,B⟩:=hp.kt H b;have t:x.1.st.toNat<4:=by omega
 have e:x.1.st=((x.1.st.toNat:Nat):Int):=by omega
 have:=I5 w i sb c cs v s H q f W h.1 (yd hp.out f h.2) _ t p (I8 H b u) (B p u);rw[<-e]at this;refine this.mono ?_;rintro r G⟨rfl,K,L,k3⟩;refine⟨rfl,⟨K,λy d=>?_⟩,L,k3⟩
 obtain d|d:=bQ.1 d
 exact h.2 y d;rw[cS.1 d];exact B p u;rintro e j(⟨m,rfl,g⟩|⟨m,rfl,X,Y,al,M,F,⟨W3,N,O,P,Q⟩,C,nf,nl⟩);exact .inl ⟨m,rfl,g⟩;refine .inr ⟨m,rfl,?_,C⟩;have:=N.1.whole H q O P M F C nf Q (λx b=>by
  simp only[bQ,iy]at b;refine bQ.2 ?_;obtain b|b|b:=b
  exact .inl b.1.1;exact .inr b.1
  ·exact .inl b.1.1)
 have e2:({s with out:=eB s.out (kN (λx=>bL l x.1.num) v.lf++kN (λx=>bL l x.1.num) v.ll),aK:=((v.lf.filter (λx=> !bL l x.1.num)).filter (λx=> !decide (x.1.num+3<=(au l 0).hi))).map (·.1),lost:=(v.ll.filter (λx=> !bL l x.1.num)++(v.lf.filter (λx=> !bL l x.1.num)).filter (λx=>decide (x.1.num+3<=(au l 0).hi))).map (·.1),count:=s.count,tick:=s.tick,wait:=(if v.lf.any (λx=>bL l x.1.num)then 4 else s.wait)}:Sd)=s.eE l:=by
  unfold Sd.eE;rw[BF (λx=>bL l x.num),BF (λx=>bL l x.num),mO,r9 (λx=> !decide (x.num+3<=(au l 0).hi)),r9 (λx=> !bL l x.num) v.lf,r9 (λx=>decide (x.num+3<=(au l 0).hi)),r9 (λx=> !bL l x.num) v.lf,r9 (λx=> !bL l x.num) v.ll,I7 (λx=>bL l x.num),<-H.aK,<-H.lost]
 rw[<-e2];exact this
theorem Jb(w:World)(d sb:Nat)(cs:Array Value)(v:aU)(s:Sd)(H:bB w d sb cs v s)(hp:lV s)(aC:s.aK.length<=1000000/\s.lost.length<=40000000)(f:Fr)(a:Option Addr)(n cap:Nat)(hs:bu w a n cap f.ranges)(hl:0<f.ranges.length)(A:∀y,a=some y->¬cg sb v y.block/\y.block<w.heap.size):
 Calls prog 217 #[.pointer (some ⟨sb,0,none⟩),.agg (bP f (.slice a n cap))] w (tN w d sb v s f.ranges):=by
 obtain⟨R,p⟩:=exq (tN w d sb v s f.ranges);rw[<-p];replace p:=J p;obtain⟨k,r⟩:=exq (w.alloc (.cells #[.pointer (some ⟨sb,0,none⟩)] 169));have g1:w.grownBy k none:=by rw[r];exact aH _ _ _
 have E:k.heap[w.heap.size]?=some (.cells #[.pointer (some ⟨sb,0,none⟩)] 169 (0,0)):=by rw[r];exact aM _ _
 obtain⟨b,t⟩:=exq (k.alloc (.cells (bP f (.slice a n cap)) 158));have U:k.grownBy b none:=by rw[t];exact aH _ _ _
 have B:b.heap[k.heap.size]?=some (.cells (bP f (.slice a n cap)) 158 (0,0)):=by rw[t];exact aM _ _
 have l:w.grownBy b.drew none:=aW (aq g1 U);have F:¬cg sb v w.heap.size:=λh=>by have:=px H.bq h;omega
 have m:b.drew.heap[w.heap.size]?=some (.cells #[.pointer (some ⟨sb,0,none⟩)] 169 (0,0)):=bA E (aW U);have u:=J (Ja b.drew d sb w.heap.size cs v s (H.ao l) hp aC m F a n cap f.ranges (hs.ao l) hl (λy V=>⟨(A y V).1,bY (A y V).2 l.size⟩));have br:¬FT sb (v.own 8) (v.own 9) w.heap.size:=λh=>F (nT h)
 have G:=J (λI W K(S3:bB I d sb W K (s.eE f.ranges))(a2:I.heap[w.heap.size]?=some (.cells #[.pointer (some ⟨sb,0,none⟩)] 169 (0,0)))(a3:¬cg sb K w.heap.size)=>I9 I d sb w.heap.size W K _ S3 (hp.eE _) a2 a3);have k0:b.drew.cell? ⟨w.heap.size,0,none⟩=some (.pointer (some ⟨sb,0,none⟩)):=(pD m).1;have L:b.drew.cell? ⟨k.heap.size,6,none⟩=some (.slice a n cap):=(cH (w:=b) (by unfold bP at B;exact B)).2.2.2.2.2.2;have bt:k.heap.size=w.heap.size+1:=by rw[r];simp
 have gr:b.grownBy b.drew none:=aW (aB _ none);replace H:=J H;replace hp:=J hp;replace E:=J E;replace B:=J B;replace m:=J m;replace hs:=J hs;replace A:=J A;obtain⟨kind,stream,offset,code,fin,data,ranges⟩:=f;unfold bP at *;simp only at *;rw[r]at t L;rw[dQ]at L;obtain⟨rl,X⟩:=exq ranges;rw[<-X]at u G p;clear X;go_enter func217,ntmps217;go_upto_region 2 with fail;rw[<-t];clear t r;have M:∀j,w.heap.size<=j->¬FT sb (v.own 8) (v.own 9) j:=λj hj h=>by have:=px (Z H).bq (nT h);omega
 have q:b.drew.cell? ⟨w.heap.size,0,none⟩=some (.pointer (some ⟨sb,0,none⟩))/\b.drew.cell? ⟨w.heap.size+1,6,none⟩=some (.slice a n cap):=⟨k0,L⟩
 by_cases Y:s.count<=(au rl 0).hi
 ·have C:=J ((Z u).mono (λe c h=>(show e=.returned (.iface 34 (.int .i64 8))/\b.drew.grownBy c none from h.elim (λh=>h.2) (λh=>by have:=h.1;omega))));have N:=J (λc(g:b.drew.grownBy c none)=>(show R (.returned (.iface 34 (.int .i64 8))) c by rw[Z p];exact .inl ⟨Y,rfl,aq l g⟩));clear u;go_region_held3 (λc=>c.cell? ⟨w.heap.size,0,none⟩=some (.pointer (some ⟨sb,0,none⟩))/\c.cell? ⟨w.heap.size+1,6,none⟩=some (.slice a n cap))
   (first|with_reducible exact x|with_reducible exact q)
   (first|(go_at_call 253;refine(Z C).mono ?_;rintro e i⟨rfl,O⟩;have x:i.cell? ⟨w.heap.size,0,none⟩=some (.pointer (some ⟨sb,0,none⟩))/\i.cell? ⟨w.heap.size+1,6,none⟩=some (.slice a n cap):=⟨O.cell q.1 (by simp),O.cell q.2 (by simp)⟩;have P:=J (Z N _ O)))
  go_wp2_with fail;exact Z P
 have C:=J ((Z u).mono (λe c h=>(show e=.returned .nilIface/\dO b.drew.heap.size b.drew d sb v (s.eE rl) c/\av b.drew c (FT sb (v.own 8) (v.own 9))from h.elim (λh=>absurd h.1 Y) (λh=>h.2))));clear u;go_region_held3 (λc=>c.cell? ⟨w.heap.size,0,none⟩=some (.pointer (some ⟨sb,0,none⟩))/\c.cell? ⟨w.heap.size+1,6,none⟩=some (.slice a n cap))
  (first|with_reducible exact x|with_reducible exact q)
  (first|(go_at_call 253;refine(Z C).mono ?_;rintro e i⟨rfl,D,z⟩;have x:i.cell? ⟨w.heap.size,0,none⟩=some (.pointer (some ⟨sb,0,none⟩))/\i.cell? ⟨w.heap.size+1,6,none⟩=some (.slice a n cap):=⟨z.cell q.1 (M _ (aP _)),z.cell q.2 (M _ (by simp))⟩;have a8:=J ((z.block w.heap.size (aY.1 (Z m)).1 (M _ (aP _))).trans (Z m));replace D:=J D;replace z:=J z))
 obtain⟨a9,Q,S,T⟩:=Z D;have bb:¬cg sb Q w.heap.size:=λh=>by
  have bM:=(aY.1 (Z m)).1;obtain h1|h1:=T.ft _ h
  exact F h1;omega
 have bj:=J (Z G i a9 Q S (Z a8) bb);have N:=J (λc(h:dO i.heap.size i d sb Q (s.eE rl).forget c)=>(show R (.returned .nilIface) c by
  rw[Z p];refine .inr ⟨by omega,rfl,?_⟩;exact dO.pre ((cY.ao l).trans (T.mono l.size)) (h.mono (bD l.size T.aw.size))))
 have b0:=x.1;clear G C D x;replace S:=J S;go_wp2_with fail;refine(Z bj).mono ?_;rintro e w6⟨rfl,h6⟩;have P:=J (Z N _ h6);clear h6;go_wp2_with fail;exact Z P
def Sd.take(s:Sd)(f:Fr):Int×Sd:=
 if f.kind=3 then(if s.count<=(au f.ranges 0).hi then(8,s)else(0,s.dT f.ranges))
 else if f.kind=4 then(if(s.aJ f.stream.toNat).gp f.offset then(7,s)else(0,{s with aJ:=ai s.aJ f.stream.toNat ((s.aJ f.stream.toNat).reset f)}))
 else if f.kind=5 then(if(s.aJ f.stream.toNat).bad f then(7,s)else(0,{s with aJ:=ai s.aJ f.stream.toNat ((s.aJ f.stream.toNat).data f)}))
 else if f.kind=6 then(10,s)else(0,s)
def ku(w:World)(a sb:Nat)(v:aU)(r:Int×Sd)(e:Ending)(b:World):Prop:=e=.returned (bN r.1)/\dO w.heap.size w a sb v r.2 b
theorem Jc(w:World)(a sb k:Nat)(cs:Array Value)(v:aU)(s:Sd)(H:bB w a sb cs v s)(b:k<4)(f:Fr)(c:Value):
 Calls prog 218 #[.pointer (some ⟨sb,55+k*9,none⟩),.agg (bP f c)] w (ku w a sb v (if(s.aJ k).gp f.offset then(7,s)else(0,{s with aJ:=ai s.aJ k ((s.aJ k).reset f)}))):=by
 rw[tF];refine(GL w sb (55+9*k) a cs _ _ _ _ H.aN (H.aJ k b) (H.xX k b) f c).mono ?_;rintro r e(⟨h,rfl,g⟩|⟨h,rfl,d⟩);rw[h];exact⟨rfl,H.to g⟩
 rw[h];exact⟨rfl,H.xY k b _ d⟩
theorem Jd(w:World)(a sb k:Nat)(cs:Array Value)(v:aU)(s:Sd)(H:bB w a sb cs v s)(b:k<4)(f:Fr)(c:Value)(d:(s.aJ k).h.nice)(e:0<=f.offset)(hs:aT f<=4611686018427387903)(i:(s.aJ k).given=false->∀m,f.offset<=m->m<aT f->¬Sm (s.aJ k).h.af m->(s.aJ k).h.fr<=m/\m<(s.aJ k).h.fr+900000):
 Calls prog 219 #[.pointer (some ⟨sb,55+k*9,none⟩),.agg (bP f c)] w (ku w a sb v (if(s.aJ k).bad f then(7,s)else(0,{s with aJ:=ai s.aJ k ((s.aJ k).data f)}))):=by
 rw[tF];refine(GI w sb (55+9*k) a cs _ _ _ _ H.aN (H.aJ k b) d H.aG (H.xX k b) f c e hs i).mono ?_;rintro r l(⟨h,rfl,g⟩|⟨h,rfl,j⟩);rw[h];exact⟨rfl,H.to g⟩
 rw[h];exact⟨rfl,H.xY k b _ j⟩
theorem ku.pre{r:Int×Sd}{e:Ending}(g:w.grownBy W none)(h:ku W n k D r e V):ku w n k D r e V:=⟨h.1,dO.pre (cY.ao g) (h.2.mono g.size)⟩
theorem ku.aw{r:Int×Sd}{e:Ending}(h:ku w n k D r e W):av w W (cg k D):=by
 obtain⟨-,cs,b,-,a⟩:=h;exact a.aw
theorem tN.tk{e:Ending}(H:bB w n k c D s)(h:tN w n k D s X e W):ku w n k D (if s.count<=(au X 0).hi then(8,s)else(0,s.dT X)) e W:=by
 obtain⟨a,rfl,g⟩|⟨a,rfl,b⟩:=h
 rw[az a];exact⟨rfl,H.to g⟩
 rw[ah (by omega)];exact⟨rfl,b⟩
structure BH(s:Sd)(f:Fr):Prop where
 st:0<=f.stream/\f.stream<4
 rg:f.kind=3->0<f.ranges.length
 off:0<=f.offset
 en:f.kind=5->aT f<=4611686018427387903
 nice:(s.aJ f.stream.toNat).h.nice
 lo:f.kind=5->(s.aJ f.stream.toNat).given=false->∀m,f.offset<=m->m<aT f->¬Sm (s.aJ f.stream.toNat).h.af m->(s.aJ f.stream.toNat).h.fr<=m/\m<(s.aJ f.stream.toNat).h.fr+900000
theorem Je(w:World)(p sb:Nat)(cs:Array Value)(v:aU)(s:Sd)(H:bB w p sb cs v s)(hp:lV s)(a1:s.aK.length<=1000000/\s.lost.length<=40000000)(f:Fr)(a:Option Addr)(n cap:Nat)(hs:bu w a n cap f.ranges)(S:f.ranges≠[]->∀y,a=some y->¬cg sb v y.block/\y.block<w.heap.size)(u:BH s f):
 Calls prog 166 #[.pointer (some ⟨sb,0,none⟩),.agg (bP f (.slice a n cap))] w (ku w p sb v (s.take f)):=by
 obtain⟨R,b⟩:=exq (ku w p sb v (s.take f));rw[<-b];obtain⟨k,Y,x⟩:∃k:Nat,k<4/\f.stream=(k:Int):=⟨f.stream.toNat,by have:=u.st;omega,by have:=u.st;omega⟩
 have i:f.stream.toNat=k:=by omega
 obtain⟨j,l⟩:=exq (w.alloc (.cells (bP f (.slice a n cap)) 158));have B:w.grownBy j none:=by rw[l];exact aH _ _ _
 have d:j.heap[w.heap.size]?=some (.cells (bP f (.slice a n cap)) 158 (0,0)):=by rw[l];exact aM _ _
 have I:=J (λW(g:w.grownBy W none)(hl:0<f.ranges.length)=>(Jb W p sb cs v s (H.ao g) hp a1 f a n cap (hs.ao g) hl (λy ey=>⟨(S (oj.1 hl) y ey).1,bY (S (oj.1 hl) y ey).2 g.size⟩)).mono (λe C h=>ku.pre g (tN.tk (H.ao g) h)));have K:=J (λW(g:w.grownBy W none)=>Jc W p sb k cs v s (H.ao g) Y f (.slice a n cap));have L:=J (λW(g:w.grownBy W none)(c:f.kind=5)=>Jd W p sb k cs v s (H.ao g) Y f (.slice a n cap) (by rw[<-i];exact u.nice) u.off (u.en c) (by rw[<-i];exact u.lo c));have D:=J (λW(g:w.grownBy W none)(e:Int)=>(show ku w p sb v (e,s) (.returned (bN e)) W from⟨rfl,H.to g⟩));have ax:s.take f=if f.kind=3 then(if s.count<=(au f.ranges 0).hi then(8,s)else(0,s.dT f.ranges))else if f.kind=4 then(if(s.aJ k).gp f.offset then(7,s)else(0,{s with aJ:=ai s.aJ k ((s.aJ k).reset f)}))else if f.kind=5 then(if(s.aJ k).bad f then(7,s)else(0,{s with aJ:=ai s.aJ k ((s.aJ k).data f)}))else if f.kind=6 then(10,s)else(0,s):=by unfold Sd.take;rw[i]
 rw[ax]at b;have i1:(k:Int)<4:=by omega
 have d1:decide ((k:Int)<4)=true:=bK i1;have T:=u.rg;have P:¬cg sb v w.heap.size:=λh=>by have:=px H.bq h;omega
 clear ax hp hs S u;replace H:=J H;replace T:=J T;have Q:j.grownBy j.drew none:=aW (aB _ none);have aC:∀(r:Int×Sd)(e:Ending)(C:World),ku w p sb v r e C->e=.returned (bN r.1):=λr e C h=>h.1
 obtain⟨rr,N⟩:∃rr:Int×Sd,R=ku w p sb v rr:=⟨_,b⟩
 by_cases t:f.kind=3
 ·have z:=J (Z I j B (Z T t));rw[az t]at b;clear K L D I;obtain⟨q,A⟩:∃q:Int×Sd,q=(if s.count<=(au f.ranges 0).hi then(8,s)else(0,s.dT f.ranges)):=⟨_,rfl⟩
  rw[<-A]at b z;clear A N;replace b:=J b;obtain⟨kind,stream,offset,code,fin,data,ranges⟩:=f;unfold bP at *;simp only at *;subst t;obtain⟨M,y1,y2,y3,y4,y5,y6⟩:=cH d;replace d:=J d;replace x:=J x;replace i:=J i;go_enter func166,ntmps166;go_upto_region 1 with fail;rw[<-l];clear l;go_wp2_with fail;refine(Z z).mono ?_;rintro e w2 U;obtain rfl:=U.1;have m:Hid (R (.returned (bN q.1)) w2):=J (by rw[Z b];exact U);clear U;generalize bN q.1=ev at *;go_wp2_with fail;exact Z m
 rw[ah t]at b;by_cases E:f.kind=4
 ·have z:=J (Z K j.drew (aq B Q));rw[az E]at b;clear K L D I;obtain⟨q,A⟩:∃q:Int×Sd,q=(if(s.aJ k).gp f.offset then(7,s)else(0,{s with aJ:=ai s.aJ k ((s.aJ k).reset f)})):=⟨_,rfl⟩
  rw[<-A]at b z;clear A N;replace b:=J b;obtain⟨kind,stream,offset,code,fin,data,ranges⟩:=f;unfold bP at *;simp only at *;subst E;subst x;obtain⟨M,-⟩:=cH d;obtain⟨F,hF⟩:=exq w.heap.size;rw[<-hF]at d P M;have G:j.drew.heap[F]?=some (.cells #[.int .i64 4,.int .i64 (k:Int),.int .u64 offset,.int .u64 code,.bool fin,.string data,.slice a n cap] 158 (0,0)):=d;replace d:=J d;replace i:=J i;clear t;go_enter func166,ntmps166;go_upto_region 1 with fail;rw[<-l,<-hF];clear l hF;go_upto_region 5 with fail;have k0:∀W:World,W.heap[F]?=some (.cells #[.int .i64 4,.int .i64 (k:Int),.int .u64 offset,.int .u64 code,.bool fin,.string data,.slice a n cap] 158 (0,0))->W.cell? ⟨F,0,none⟩=some (.int .i64 4):=λW h=>(cH h).1
  have k1:∀W:World,W.heap[F]?=some (.cells #[.int .i64 4,.int .i64 (k:Int),.int .u64 offset,.int .u64 code,.bool fin,.string data,.slice a n cap] 158 (0,0))->W.cell? ⟨F,1,none⟩=some (.int .i64 (k:Int)):=λW h=>(cH h).2.1
  have k2:∀W:World,W.heap[F]?=some (.cells #[.int .i64 4,.int .i64 (k:Int),.int .u64 offset,.int .u64 code,.bool fin,.string data,.slice a n cap] 158 (0,0))->W.cell? ⟨F,2,none⟩=some (.int .u64 offset):=λW h=>(cH h).2.2.1
  have k3:∀W:World,W.heap[F]?=some (.cells #[.int .i64 4,.int .i64 (k:Int),.int .u64 offset,.int .u64 code,.bool fin,.string data,.slice a n cap] 158 (0,0))->W.cell? ⟨F,3,none⟩=some (.int .u64 code):=λW h=>(cH h).2.2.2.1
  have k4:∀W:World,W.heap[F]?=some (.cells #[.int .i64 4,.int .i64 (k:Int),.int .u64 offset,.int .u64 code,.bool fin,.string data,.slice a n cap] 158 (0,0))->W.cell? ⟨F,4,none⟩=some (.bool fin):=λW h=>(cH h).2.2.2.2.1
  have k5:∀W:World,W.heap[F]?=some (.cells #[.int .i64 4,.int .i64 (k:Int),.int .u64 offset,.int .u64 code,.bool fin,.string data,.slice a n cap] 158 (0,0))->W.cell? ⟨F,5,none⟩=some (.string data):=λW h=>(cH h).2.2.2.2.2.1
  have k6:∀W:World,W.heap[F]?=some (.cells #[.int .i64 4,.int .i64 (k:Int),.int .u64 offset,.int .u64 code,.bool fin,.string data,.slice a n cap] 158 (0,0))->W.cell? ⟨F,6,none⟩=some (.slice a n cap):=λW h=>(cH h).2.2.2.2.2.2
  go_region_held3 (λC=>C.heap[F]?=some (.cells #[.int .i64 4,.int .i64 (k:Int),.int .u64 offset,.int .u64 code,.bool fin,.string data,.slice a n cap] 158 (0,0)))
   (first|with_reducible exact V|with_reducible exact G)
   (first|(go_at_call 218;refine(Z z).mono ?_;rintro e X c;obtain rfl:=c.1;have V:=(c.aw.block F (aY.1 G).1 P).trans G;have m:Hid (R (.returned (bN q.1)) X):=J (by rw[Z b];exact ku.pre (aq B Q) c);clear c;generalize bN q.1=ev at m⊢))
  go_wp2_with fail;exact Z m
 rw[ah E]at b;by_cases c:f.kind=5
 ·have z:=J (Z L j.drew (aq B Q) c);rw[az c]at b;clear K L D I;obtain⟨q,A⟩:∃q:Int×Sd,q=(if(s.aJ k).bad f then(7,s)else(0,{s with aJ:=ai s.aJ k ((s.aJ k).data f)})):=⟨_,rfl⟩
  rw[<-A]at b z;clear A N;replace b:=J b;obtain⟨kind,stream,offset,code,fin,data,ranges⟩:=f;unfold bP at *;simp only at *;subst c;subst x;obtain⟨M,-⟩:=cH d;obtain⟨F,hF⟩:=exq w.heap.size;rw[<-hF]at d P M;have G:j.drew.heap[F]?=some (.cells #[.int .i64 5,.int .i64 (k:Int),.int .u64 offset,.int .u64 code,.bool fin,.string data,.slice a n cap] 158 (0,0)):=d;replace d:=J d;replace i:=J i;clear t E;go_enter func166,ntmps166;go_upto_region 1 with fail;rw[<-l,<-hF];clear l hF;go_upto_region 7 with fail;have k0:∀W:World,W.heap[F]?=some (.cells #[.int .i64 5,.int .i64 (k:Int),.int .u64 offset,.int .u64 code,.bool fin,.string data,.slice a n cap] 158 (0,0))->W.cell? ⟨F,0,none⟩=some (.int .i64 5):=λW h=>(cH h).1
  have k1:∀W:World,W.heap[F]?=some (.cells #[.int .i64 5,.int .i64 (k:Int),.int .u64 offset,.int .u64 code,.bool fin,.string data,.slice a n cap] 158 (0,0))->W.cell? ⟨F,1,none⟩=some (.int .i64 (k:Int)):=λW h=>(cH h).2.1
  have k2:∀W:World,W.heap[F]?=some (.cells #[.int .i64 5,.int .i64 (k:Int),.int .u64 offset,.int .u64 code,.bool fin,.string data,.slice a n cap] 158 (0,0))->W.cell? ⟨F,2,none⟩=some (.int .u64 offset):=λW h=>(cH h).2.2.1
  have k3:∀W:World,W.heap[F]?=some (.cells #[.int .i64 5,.int .i64 (k:Int),.int .u64 offset,.int .u64 code,.bool fin,.string data,.slice a n cap] 158 (0,0))->W.cell? ⟨F,3,none⟩=some (.int .u64 code):=λW h=>(cH h).2.2.2.1
  have k4:∀W:World,W.heap[F]?=some (.cells #[.int .i64 5,.int .i64 (k:Int),.int .u64 offset,.int .u64 code,.bool fin,.string data,.slice a n cap] 158 (0,0))->W.cell? ⟨F,4,none⟩=some (.bool fin):=λW h=>(cH h).2.2.2.2.1
  have k5:∀W:World,W.heap[F]?=some (.cells #[.int .i64 5,.int .i64 (k:Int),.int .u64 offset,.int .u64 code,.bool fin,.string data,.slice a n cap] 158 (0,0))->W.cell? ⟨F,5,none⟩=some (.string data):=λW h=>(cH h).2.2.2.2.2.1
  have k6:∀W:World,W.heap[F]?=some (.cells #[.int .i64 5,.int .i64 (k:Int),.int .u64 offset,.int .u64 code,.bool fin,.string data,.slice a n cap] 158 (0,0))->W.cell? ⟨F,6,none⟩=some (.slice a n cap):=λW h=>(cH h).2.2.2.2.2.2
  go_region_held3 (λC=>C.heap[F]?=some (.cells #[.int .i64 5,.int .i64 (k:Int),.int .u64 offset,.int .u64 code,.bool fin,.string data,.slice a n cap] 158 (0,0)))
   (first|with_reducible exact V|with_reducible exact G)
   (first|(go_at_call 219;refine(Z z).mono ?_;rintro e X c;obtain rfl:=c.1;have V:=(c.aw.block F (aY.1 G).1 P).trans G;have m:Hid (R (.returned (bN q.1)) X):=J (by rw[Z b];exact ku.pre (aq B Q) c);clear c;generalize bN q.1=ev at m⊢))
  go_wp2_with fail;exact Z m
 rw[ah c]at b;by_cases O:f.kind=6
 ·rw[az O]at b;have m:Hid (R (.returned (.iface 34 (.int .i64 10))) j):=J (by rw[b];exact Z D j B 10);clear b N K L D I aC;obtain⟨kind,stream,offset,code,fin,data,ranges⟩:=f;unfold bP at *;simp only at *;subst O;obtain⟨M,-⟩:=cH d;replace d:=J d;replace x:=J x;replace i:=J i;clear t E c;go_enter func166,ntmps166;go_upto_region 1 with fail;rw[<-l];clear l;go_wp2_with fail;exact Z m
 rw[ah O]at b;have m:Hid (R (.returned .nilIface) j):=J (by rw[b];exact Z D j B 0);clear b N K L D I aC;obtain⟨kind,stream,offset,code,fin,data,ranges⟩:=f;unfold bP at *;simp only at *;obtain⟨M,-⟩:=cH d;have e3:(kind==3)=false:=by simpa using t
 have e4:(kind==4)=false:=by simpa using E
 have e5:(kind==5)=false:=by simpa using c
 have e6:(kind==6)=false:=by simpa using O
 replace d:=J d;replace x:=J x;replace i:=J i;clear t E c O;go_enter func166,ntmps166;go_upto_region 1 with fail;rw[<-l];clear l;go_wp2_with fail;exact Z m
def zO:List Value:=[.int .u64 0,.slice none 0 0,.slice none 0 0,.int .u64 0,.bool false,.bool false,.bool false,.bool false,.int .u64 0]
def zI:List Value:=[.int .u64 0,.slice none 0 0,.slice none 0 0,.int .u64 0,.int .u64 0,.int .u64 0,.bool false,.bool false,.bool false]
def fX(an ag:Int)(key:List Value)(first:Bool)(wait aF:Int)(last:Value):List Value:=
 [.int .i64 an,.int .i64 ag]++key++[.bool first]++zO++zO++zO++zO++zI++zI++zI++zI++[.int .u64 0,.int .i64 0,.int .i64 wait,.slice none 0 0,.slice none 0 0,.slice none 0 0,.int .u64 0,.bool false,.int .i64 aF,last]
def kV:List Value:=[.int .u8 0,.int .u8 0,.int .u8 0,.int .u8 0,.int .u8 0,.int .u8 0,.int .u8 0,.int .u8 0,.int .u8 0,.int .u8 0,.int .u8 0,.int .u8 0,.int .u8 0,.int .u8 0,.int .u8 0,.int .u8 0]
theorem vU(aF:Int)(last:Value):(zeroCells241.setIfInBounds 99 (.int .i64 aF)).setIfInBounds 100 last=(fX 0 0 kV false 0 aF last).toArray:=by kernel_rfl
theorem Ky:(prog.info? 241).map (·.size)=some 101:=by kernel_rfl
structure jc(w:World)(b sb:Nat)(aF:Int)(last:Value)(a:List El):Prop where
 aN:w.heap[sb]?=some (.cells (fX 0 0 kV false 0 aF last).toArray 241 (0,0))
 own:eO w b last a
 at_:gP w b a
 nl:last.ownBlock≠some sb
 ne:∀e∈a,e.1≠sb
 s5:∀e∈a,last.ownBlock≠some e.1
def eR(code:Int):Fr:=⟨6,0,0,code,false,⟨#[]⟩,[]⟩
def Sd.gQ(s:Sd)(aF code:Int):List (List Int):=if aF=10 then[]else[dm s.key (aS s.first) s.count (bw [eR code])]
def vV(w:World)(sb:Nat)(v:aU)(aF:Int)(l:List (List Int))(e:Ending)(a:World):Prop:=
 e=.returned (.tuple #[])/\∃last b,jc a w.heap.size sb aF last b/\b.map (·.2)=l/\av w a (cg sb v)
theorem yF(an ag:Int)(key:List Value)(first:Bool)(wait aF:Int)(last:Value)(a:key.length=16):(fX an ag key first wait aF last).length=101:=by simp[fX,zO,zI,a]
theorem Cv(wait aF:Int)(a:Option Addr)(n c:Nat):((fX 0 0 kV false wait aF (.slice a n c)).toArray).all (·.oneCell')=true:=by
 refine all_oneCell_toArray (λv b=>?_);simp only[fX,zO,zI,kV,bQ,fk,qG,oT]at b;obtain(((((((((((b|b)|b)|b)|b)|b)|b)|b)|b)|b)|b)|b):=b<;>(repeat' (obtain rfl|b:=b))<;>first|rfl|(subst b;rfl)
theorem Kz(w:World)(a:0<=p/\p<=4611686018427387903):dr w (eR p) (.slice none 0 0)/\cU (eR p)/\fL [eR p]<=30000000:=by
 refine⟨⟨⟨by simp[dz,eR],by simp[dz,eR],by simp[aV,eR],by simp only[eR];unfold aV;omega,by simp[eR]⟩,by simp[eR,ByteArray.size],none,0,rfl,⟨by simp[eR],rfl,aP _,by simp[maxLen],.inl rfl⟩⟩,⟨⟨by simp[eR],by simp only[eR];omega,by simp[eR],by simp[eR]⟩,⟨λe=>by simp[eR]at e,λe=>by simp[eR]at e⟩,by simp[eR],by simp[eR]⟩,?_⟩
 simp[fL,lL,eR,ByteArray.size]
theorem KA(cells:Array Value):w.grownBy (w.setRow n cells) (some n):=
 (show av w (w.setRow n cells) (λk=>k=n)from⟨rfl,rfl,rfl,by simp,λk _ a=>setRow_other w n k cells a⟩).gb (λk _ e=>by rw[e])
theorem Cw{v:aU}{x:Ak}{f:List El}(b:iq w i l D v x y a n o W C f)(aF:Int)(t:y=.slice O m k):jc (W.setRow l (fX 0 0 kV false 0 aF y).toArray) w.heap.size l aF y f/\av w (W.setRow l (fX 0 0 kV false 0 aF y).toArray) (cg l D):=by
 have g:=KA (w:=W) (n:=l) (fX 0 0 kV false 0 aF y).toArray;have p:∀j,y.ownBlock=some j->j≠l:=λj e e2=>b.ls.a5 j e (.inl (.inl e2))
 have q:∀e∈f,e.1≠l:=λe h e2=>b.ls.ae e h (.inl (.inl e2))
 have c:av W (W.setRow l (fX 0 0 kV false 0 aF y).toArray) (λd=>d=l):=(av.of g).mono (λd _ e=>(aO e).symm);refine⟨⟨setRow_heap W l C _ _ _ b.side.aN,b.ls.own.aw c (λj e e2=>p j e e2),b.ls.at_.aw c (λe h e2=>q e h e2),λe=>p l e rfl,q,b.ls.s5⟩,?_⟩
 refine⟨c.os.trans b.dM.aw.os,c.tape.trans b.dM.aw.tape,c.output.trans b.dM.aw.output,bD b.dM.aw.size c.size,λd r s=>?_⟩
 rw[c.block d (bY r b.dM.aw.size) (λe=>s (.inl e))];exact b.dM.aw.block d r s
theorem Cx(w:World)(k sb:Nat)(cs:Array Value)(v:aU)(s:Sd)(H:bB w k sb cs v s)(b3:dw s.key)(eo:0<=s.count/\s.count<=4611686018427387000)(aF code:Int)(hc:0<=code/\code<=4611686018427387903):
 Calls prog 168 #[.pointer (some ⟨sb,0,none⟩),.int .i64 aF,.int .u64 code] w (vV w sb v aF (s.gQ aF code)):=by
 obtain⟨R,D⟩:=exq (λq:World=>∃last b4,jc q w.heap.size sb aF last b4/\b4.map (·.2)=s.gQ aF code/\av w q (cg sb v));have b5:vV w sb v aF (s.gQ aF code)=λe q=>e=.returned (.tuple #[])/\R q:=by rw[D];rfl
 rw[b5];clear b5;replace D:=J D;have t:iq w k sb v v ⟨s,[],[]⟩ (.slice none 0 0) none 0 0 w cs []:=⟨H,cY.rfl' _ _ _ _,fw.nil _ _ _ _,rfl,⟨λr h=>(by cases h),rfl,aP _,by simp[maxLen],.inl rfl⟩,λh=>absurd rfl h⟩
 have u:=Ky;have cy:=H.bq.ig;by_cases l:aF=10
 ·have d:Hid (R (w.setRow sb (fX 0 0 kV false 0 aF (.slice none 0 0)).toArray)):=J (by
   rw[Z D];obtain⟨h1,h2⟩:=Cw t aF rfl;exact⟨_,[],h1,by unfold Sd.gQ;rw[az l];rfl,h2⟩)
  have f:=yF 0 0 kV false 0 aF (.slice none 0 0) rfl;have i:=Cv 0 aF none 0 0;have e1:(aF !=10)=false:=by rw[l];rfl
  have aC:=H.aN;have a0:=H.sz;replace t:=J t;replace H:=J H;rw[<-vU]at d i;have a1:((zeroCells241.setIfInBounds 99 (.int .i64 aF)).setIfInBounds 100 (.slice none 0 0)).size=101:=by rw[vU];simp[f]
  replace aC:=J aC;replace a0:=J a0;replace f:=J a1;replace i:=J i;replace u:=J u;replace l:=J l;go_enter func168,ntmps168;go_wp2_with (refine wpList_store_row (by rfl) 241 _ _ (by rfl) sb _ (by rfl) (by rfl) 241 cs (Z aC) (by rw[Z u,Z f]) (by rw[Z a0,Z f]) (Z i) ?_);first|exact Z d|exact⟨rfl,Z d⟩|exact eW (et rfl _ _ _) rfl ⟨rfl,Z d⟩
 have e1:(aF !=10)=true:=by simpa using l
 obtain⟨E,K⟩:=exq (w.alloc (.cells #[.int .i64 6,.int .i64 0,.int .u64 0,.int .u64 code,.bool false,.string ⟨#[]⟩,.slice none 0 0] 158));have g5:w.grownBy E none:=by rw[K];exact aH _ _ _
 obtain⟨F,hF⟩:=exq w.heap.size;have a2:E.heap[F]?=some (.cells #[.int .i64 6,.int .i64 0,.int .u64 0,.int .u64 code,.bool false,.string ⟨#[]⟩,.slice none 0 0] 158 (0,0)):=by rw[K,hF];exact aM _ _
 have a3:=t.gb g5;have cC:F≠sb:=by omega
 have k0:∀W:World,W.heap[F]?=some (.cells #[.int .i64 6,.int .i64 0,.int .u64 0,.int .u64 code,.bool false,.string ⟨#[]⟩,.slice none 0 0] 158 (0,0))->W.cell? ⟨F,0,none⟩=some (.int .i64 6):=λW h=>(cH h).1
 have k1:∀W:World,W.heap[F]?=some (.cells #[.int .i64 6,.int .i64 0,.int .u64 0,.int .u64 code,.bool false,.string ⟨#[]⟩,.slice none 0 0] 158 (0,0))->W.cell? ⟨F,1,none⟩=some (.int .i64 0):=λW h=>(cH h).2.1
 have k2:∀W:World,W.heap[F]?=some (.cells #[.int .i64 6,.int .i64 0,.int .u64 0,.int .u64 code,.bool false,.string ⟨#[]⟩,.slice none 0 0] 158 (0,0))->W.cell? ⟨F,2,none⟩=some (.int .u64 0):=λW h=>(cH h).2.2.1
 have k3:∀W:World,W.heap[F]?=some (.cells #[.int .i64 6,.int .i64 0,.int .u64 0,.int .u64 code,.bool false,.string ⟨#[]⟩,.slice none 0 0] 158 (0,0))->W.cell? ⟨F,3,none⟩=some (.int .u64 code):=λW h=>(cH h).2.2.2.1
 have k4:∀W:World,W.heap[F]?=some (.cells #[.int .i64 6,.int .i64 0,.int .u64 0,.int .u64 code,.bool false,.string ⟨#[]⟩,.slice none 0 0] 158 (0,0))->W.cell? ⟨F,4,none⟩=some (.bool false):=λW h=>(cH h).2.2.2.2.1
 have k5:∀W:World,W.heap[F]?=some (.cells #[.int .i64 6,.int .i64 0,.int .u64 0,.int .u64 code,.bool false,.string ⟨#[]⟩,.slice none 0 0] 158 (0,0))->W.cell? ⟨F,5,none⟩=some (.string ⟨#[]⟩):=λW h=>(cH h).2.2.2.2.2.1
 have k6:∀W:World,W.heap[F]?=some (.cells #[.int .i64 6,.int .i64 0,.int .u64 0,.int .u64 code,.bool false,.string ⟨#[]⟩,.slice none 0 0] 158 (0,0))->W.cell? ⟨F,6,none⟩=some (.slice none 0 0):=λW h=>(cH h).2.2.2.2.2.2
 have b7:=J (Cs E.drew k sb cs v s (H.ao (aW g5)) (by omega));have b8:=J (λb G(L:bB b k sb G v {s with count:=s.count+1})(g:E.drew.grownBy b (some sb))=>(a3.gb (aW (aB _ none))).num cy L g);have M:=λb=>Kz b hc
 have N:=J (λb=>ys b (eR code) (.slice none 0 0) (M b).1 (M b).2.1 (M b).2.2);have a4:(bw [eR code]).length<=1000:=by
  have e:bw [eR code]=28::aR code:=by simp[bw,da,eR]
  rw[e,dq];have:=(gJ code).2;omega
 have a8:=J (λb m G(p:iq w k sb v v ⟨{s with count:=s.count+1},[],[]⟩ (.slice none 0 0) none 0 0 b G [])(j:b.grownBy m none)(a7:Option Addr)(n7 c7:Nat)(x:bm m b.heap.size (.slice a7 n7 c7) (bw [eR code]))=>yD m sb s.key s.first b3 ((p.side.ao j).qu b3) ((aX (p.side.ao j).aN _).trans (p.side.ao j).ij) s.count (by unfold aV;omega) a7 n7 c7 _ x.gI (by omega));have bb:=J (λb m O G(p:iq w k sb v v ⟨{s with count:=s.count+1},[],[]⟩ (.slice none 0 0) none 0 0 b G [])(j:b.grownBy m none)(P:m.grownBy O none)(g:Nat)(Q:m.heap.size<=g)(S:O.heap[g]?=some (.cells (bv (dm s.key (aS s.first) s.count (bw [eR code]))).toArray 5 (0,0)))(dk:∀y∈bw [eR code],W8 y)=>Ct p j P Q S dk (by simp));have bj:=J (λ(W:World)(a:Option Addr)(n c:Nat)(hN:vS w k sb v v ⟨{s with count:=s.count+1},[],[]++[dm s.key (aS s.first) s.count (bw [eR code])]⟩ none 0 0 (.slice a n c) W)=>(show(∃T,W.heap[sb]?=some (.cells T 241 (0,0))/\T.size=101)/\R (W.setRow sb (fX 0 0 kV false 0 aF (.slice a n c)).toArray) by
  obtain⟨T,ds,U⟩:=hN;refine⟨⟨T,U.side.aN,U.side.sz⟩,?_⟩
  rw[Z D];obtain⟨h1,h2⟩:=Cw U aF rfl;exact⟨_,ds,h1,by unfold Sd.gQ;rw[ah l];exact U.el,h2⟩))
 obtain⟨B,hB⟩:=exq (bw [eR code]);rw[<-hB]at N a8 bb bj a4;have ca:bP (eR code) (.slice none 0 0)= #[.int .i64 6,.int .i64 0,.int .u64 0,.int .u64 code,.bool false,.string ⟨#[]⟩,.slice none 0 0]:=rfl;rw[ca]at N;clear ca M;have du:(Value.slice none 0 0).ownBlock≠some F:=λe=>by cases e
 obtain⟨V,X⟩:∃V:Value->World->Prop,V=λch W=>∃a' n' c',ch=.slice a' n' c'/\vS w k sb v v ⟨{s with count:=s.count+1},[],[]++[dm s.key (aS s.first) s.count B]⟩ none 0 0 ch W:=⟨_,rfl⟩
 have Y:E.drew.heap[F]?=some (.cells #[.int .i64 6,.int .i64 0,.int .u64 0,.int .u64 code,.bool false,.string ⟨#[]⟩,.slice none 0 0] 158 (0,0)):=a2;replace a2:=J a2;replace X:=J X;replace hB:=J hB;replace a3:=J a3;replace t:=J t;replace H:=J H;replace l:=J l;replace u:=J u;replace a4:=J a4;go_enter func168,ntmps168;go_upto_region 3 with fail;rw[<-K,<-hF];clear K hF;go_cut [6] (λv6 wx=>V v6 wx);case first=>
  go_region_held3 (λq=>q.heap[F]?=some (.cells #[.int .i64 6,.int .i64 0,.int .u64 0,.int .u64 code,.bool false,.string ⟨#[]⟩,.slice none 0 0] 158 (0,0)))
   (first|with_reducible exact ee|with_reducible exact bt|with_reducible exact cj|with_reducible exact cp|with_reducible exact cv|with_reducible exact Y)
   (first
     |(go_at_call 205;refine(Z b7).mono ?_;rintro e b⟨rfl,g6,L⟩;have p:=J (Z b8 _ _ L g6);have cv:=(g6.block F (aY.1 Y).1 (λe=>cC (aO e))).trans Y;clear L)
     |(go_at_call 206;refine(Z N _).mono ?_;rintro e m⟨⟨a7,n7,c7,rfl,x⟩,j⟩;have cp:=bA cv j;have bx:=x.1;replace x:=J x;replace bx:=J bx)
     |(go_at_call 204;refine(Z a8 _ _ _ (Z p) j _ _ _ (Z x)).mono ?_;rintro e O⟨g,rfl,Q,S,P⟩;have cj:=bA cp P;obtain⟨z,A,C,w9,bz,I,g9⟩:=Z bb _ _ _ _ (Z p) j P g Q S (Z bx);have bt:=bA cj (aH O (.cells #[.slice (some ⟨g,0,none⟩) (B.length+16) (B.length+16)] 112) none);have ee:=(g9.block F (aY.1 bt).1 (λe=>du e.symm)).trans bt;have ej:Hid (V (.slice z A C) w9):=J (by rw[Z X];exact⟨z,A,C,rfl,I⟩);clear S Q I;replace bz:=J bz)
     |(refine yq (by rfl) 206 206 (by rfl) _ _ (by rfl) _ _ _ (by rfl) (by rfl) (Z bz) ?_))
  all_goals go_wp2_with fail
  all_goals go_meet
  all_goals exact Z ej
 case rest=>
  rw[Z X]at hcut;obtain⟨z,A,C,rfl,I⟩:=hcut;obtain⟨⟨ek,bM,b0⟩,d⟩:=Z bj _ _ _ _ I;have f:=yF 0 0 kV false 0 aF (.slice z A C) rfl;have i:=Cv 0 aF z A C;rw[<-vU]at d i;have a1:((zeroCells241.setIfInBounds 99 (.int .i64 aF)).setIfInBounds 100 (.slice z A C)).size=101:=by rw[vU];simp[f]
  replace bM:=J bM;replace b0:=J b0;replace f:=J a1;replace i:=J i;replace d:=J d;clear I b7 b8 N a8 bb bj k0 k1 k2 k3 k4 k5 k6 Y;go_wp2_with (refine wpList_store_row (by rfl) 241 _ _ (by rfl) sb _ (by rfl) (by rfl) 241 ek (Z bM) (by rw[Z u,Z f]) (by rw[Z b0,Z f]) (Z i) ?_);first|exact Z d|exact⟨rfl,Z d⟩|exact eW (et rfl _ _ _) rfl ⟨rfl,Z d⟩
def jd(w:World)(sb:Nat)(v:aU)(aF:Int)(l:List (List Int))(a:World):Prop:=∃last b,jc a w.heap.size sb aF last b/\b.map (·.2)=l/\av w a (cg sb v)
theorem jc.low{b2:Nat}{a:List El}(h:jc w n k p x a)(b:b2<=n):jc w b2 k p x a:=
 ⟨h.aN,h.own.low b,⟨λe c=>⟨bD b (h.at_.at_ e c).1,(h.at_.at_ e c).2⟩,h.at_.sep⟩,h.nl,h.ne,h.s5⟩
theorem jd.pre{l:List (List Int)}(g:w.grownBy W none)(h:jd W n D p l V):jd w n D p l V:=by
 obtain⟨last,a,b,c,d⟩:=h;refine⟨last,a,b.low g.size,c,?_⟩
 exact((av.of g).trans d).mono (λk _ e=>e.elim (λe=>by cases e) id)
theorem C0(w:World)(m sb:Nat)(cs:Array Value)(v:aU)(s:Sd)(H:bB w m sb cs v s)(u:dw s.key)(x:0<=s.count/\s.count<=4611686018427387000)(p:Laid w)(i:Value)(n:Int)(E:0<=n/\n<=1000)
 (q:∀(W:World)(t:Addr),w.grownBy W none->Laid W->W.cell? t=some (.int .i64 0)->W.frozen? t=false->Calls prog 73 #[i,.iface 183 (.pointer (some t))] W (λev b=>ev=.returned (.bool true)/\b.cell? t=some (.int .i64 n)/\W.grownBy b (some t.block))):
 Calls prog 161 #[.pointer (some ⟨sb,0,none⟩),i] w λe b=>e=.returned i/\jd w sb v n (s.gQ n n) b:=by
 obtain⟨R,d⟩:=exq (jd w sb v n (s.gQ n n));rw[<-d];replace d:=J d;obtain⟨c,f⟩:=exq (w.alloc (.cells #[.int .i64 0] 34));have j:w.grownBy c none:=by rw[f];exact aH _ _ _
 have k:c.heap[w.heap.size]?=some (.cells #[.int .i64 0] 34 (0,0)):=by rw[f];exact aM _ _
 have c1:c.cell? ⟨w.heap.size,0,none⟩=some (.int .i64 0)/\c.frozen? ⟨w.heap.size,0,none⟩=false:=by simp[World.cell?,World.frozen?,k]
 have y:=J (q c ⟨w.heap.size,0,none⟩ j (p.gb j (by simp)) c1.1 c1.2);have z:∀a,c.grownBy a (some w.heap.size)->w.grownBy a none:=λa g=>oU (aq (cX j _) g) (aP _)
 have A:=J (λa(g:w.grownBy a none)=>Cx a m sb cs v s (H.ao g) u x n n (by omega));have F:IntKind.u64.wrap n=n:=by rw[fh];omega
 have B:=J (λa b(g:w.grownBy a none)(h:vV a sb v n (s.gQ n n) (.returned (.tuple #[])) b)=>(show R b by rw[Z d];exact jd.pre g h.2));replace k:=J k;replace H:=J H;clear q c1 p;go_enter func161,ntmps161;go_upto_region 2 with fail;rw[<-f];clear f;go_wp2_with fail;refine(Z y).mono ?_;rintro e a⟨rfl,c2,C⟩;have r:=z a C;go_wp2_with fail;refine(Z A _ r).mono ?_;rintro e G l;obtain rfl:=l.1;have D:=J (Z B _ _ r l);clear l;go_wp2_with fail;go_ret;exact⟨rfl,Z D⟩
theorem K6(w:World)(a sb:Nat)(cs:Array Value)(v:aU)(s:Sd)(H:bB w a sb cs v s)(b:dw s.key)(c:0<=s.count/\s.count<=4611686018427387000)(d:Laid w)(n:Int)(f:0<=n/\n<=1000):
 Calls prog 161 #[.pointer (some ⟨sb,0,none⟩),.iface 34 (.int .i64 n)] w λe g=>e=.returned (.iface 34 (.int .i64 n))/\jd w sb v n (s.gQ n n) g:=
 C0 w a sb cs v s H b c d _ n f (λW t _ hl h0 h=>CT n t _ W hl h0 h)
theorem K9(w:World)(a sb F:Nat)(cs:Array Value)(v:aU)(s:Sd)(H:bB w a sb cs v s)(b:dw s.key)(c:0<=s.count/\s.count<=4611686018427387000)(d:Laid w)(n:Int)(f:0<=n/\n<=1000)(hF:w.cell? ⟨F,0,none⟩=some (.int .i64 n)):
 Calls prog 161 #[.pointer (some ⟨sb,0,none⟩),.iface 177 (.pointer (some ⟨F,0,none⟩))] w λe h=>e=.returned (.iface 177 (.pointer (some ⟨F,0,none⟩)))/\jd w sb v n (s.gQ n n) h:=
 C0 w a sb cs v s H b c d _ n f (λW t g hl h0 i=>K4 F n t _ W hl (g.cell hF (by simp)) h0 i)
theorem La(w:World)(sb:Nat)(aF code:Int)(dC:w.cell? ⟨sb,99,none⟩=some (.int .i64 aF))(h:aF≠0):Calls prog 133 #[.pointer (some ⟨sb,0,none⟩),.int .u64 code] w λr b=>r=.returned (bN 9)/\w.grownBy b none:=by
 have a:=J (nQ w sb aF dC);rw[bK h]at a;go_enter func133,ntmps133;go_wp2_with fail;refine(Z a).mono ?_;rintro e d⟨rfl,c⟩;go_wp2_with fail;go_ret;exact⟨rfl,c⟩
theorem Lb(w:World)(sb:Nat)(code:Int)(dC:w.cell? ⟨sb,99,none⟩=some (.int .i64 0))(h:4611686018427387903<code):Calls prog 133 #[.pointer (some ⟨sb,0,none⟩),.int .u64 code] w λr b=>r=.returned (bN 3)/\w.grownBy b none:=by
 have a:=J (nQ w sb 0 dC);simp only[ne_eq,uD,s6]at a;have d1:decide (code>4611686018427387903)=true:=bK h;go_enter func133,ntmps133;go_wp2_with fail;refine(Z a).mono ?_;rintro e d⟨rfl,c⟩;go_wp2_with fail;go_ret;exact⟨rfl,c⟩
theorem Lc(w:World)(f sb:Nat)(cs:Array Value)(v:aU)(s:Sd)(H:bB w f sb cs v s)(k:dw s.key)(l:0<=s.count/\s.count<=4611686018427387000)(code:Int)(m:0<=code/\code<=4611686018427387903):Calls prog 133 #[.pointer (some ⟨sb,0,none⟩),.int .u64 code] w λr b=>r=.returned .nilIface/\jd w sb v 9 (s.gQ 9 code) b:=by
 obtain⟨R,c⟩:=exq (jd w sb v 9 (s.gQ 9 code));rw[<-c];replace c:=J c;have i:=J (nQ w sb 0 H.kP);simp only[ne_eq,uD,s6]at i;have d1:decide (code>4611686018427387903)=false:=bI (by omega);have n:=J (λa(g:w.grownBy a none)=>Cx a f sb cs v s (H.ao g) k l 9 code m);have p:=J (λa b(g:w.grownBy a none)(h:vV a sb v 9 (s.gQ 9 code) (.returned (.tuple #[])) b)=>(show R b by rw[Z c];exact jd.pre g h.2));replace H:=J H;go_enter func133,ntmps133;go_wp2_with fail;refine(Z i).mono ?_;rintro e t⟨rfl,j⟩;go_wp2_with fail;refine(Z n _ j).mono ?_;rintro e u d;obtain rfl:=d.1;have q:=J (Z p _ _ j d);clear d;go_wp2_with fail;go_ret;exact⟨rfl,Z q⟩
theorem C4(aF:Int)(last:Value):(fX 0 0 kV false 0 aF last).toArray[99]?=some (.int .i64 aF)/\(fX 0 0 kV false 0 aF last).toArray[100]?=some last:=⟨rfl,rfl⟩
theorem Le(aF:Int)(last a:Value):((fX 0 0 kV false 0 aF last).toArray).setIfInBounds 100 a=(fX 0 0 kV false 0 aF a).toArray:=by kernel_rfl
theorem jc.dC{a:List El}(h:jc w n k p x a):w.cell? ⟨k,99,none⟩=some (.int .i64 p):=(aX h.aN _).trans (C4 p x).1
theorem jc.ao{a:List El}(h:jc w n k p x a)(g:w.grownBy W none):jc W n k p x a:=
 ⟨bA h.aN g,h.own.ao g,h.at_.ao g,h.nl,h.ne,h.s5⟩
def su(sb:Nat)(last:Value)(a:List El)(k:Nat):Prop:=k=sb\/last.ownBlock=some k\/∃e∈a,e.1=k
theorem jc.other{a:List El}(h:jc w n i p x a)(C:av w W S)(b:∀k,k<w.heap.size->S k->¬su i x a k):jc W n i p x a:=by
 have c:=(aY.1 h.aN).1;exact⟨(C.block i c (λe=>b i c e (.inl rfl))).trans h.aN,h.own.aw C (λj e e2=>b j (h.own.lt j e).2 e2 (.inr (.inl e))),h.at_.aw C (λe d e2=>b _ (h.at_.lt d) e2 (.inr (.inr ⟨e,d,rfl⟩))),h.nl,h.ne,h.s5⟩
def qv(w:World)(d sb:Nat)(aF:Int)(f:List El)(e:Ending)(b:World):Prop:=
 ∃a n c,e=.returned (.slice a n c)/\jc b d sb aF (.slice none 0 0) []/\eO b d (.slice a n c) f/\gP b d f/\(Value.slice a n c).ownBlock≠some sb/\(∀e∈f,e.1≠sb/\(Value.slice a n c).ownBlock≠some e.1)/\w.grownBy b (some sb)
theorem Lf(w:World)(i sb:Nat)(aF:Int)(last:Value)(d:List El)(h:jc w i sb aF last d):Calls prog 157 #[.pointer (some ⟨sb,0,none⟩)] w (qv w i sb aF d):=by
 obtain⟨R,f⟩:=exq (qv w i sb aF d);rw[<-f];replace f:=J f;obtain⟨a,c,rfl,-⟩:=h.own.gy;have py:=(aX h.aN _).trans (C4 aF (.slice a d.length c)).2;have f100:w.frozen? ⟨sb,100,none⟩=false:=by simp[World.frozen?,h.aN]
 have g:=aI (aB w (some sb)) ⟨sb,100,none⟩ (.slice none 0 0) (.inr rfl);have k:Hid (R (.returned (.slice a d.length c)) (w.setCell ⟨sb,100,none⟩ (.slice none 0 0))):=J (by
  rw[Z f];refine⟨a,_,c,rfl,⟨?_,eO.nil _ _,gP.nil _ _,λe=>(by cases e),λe b=>(by cases b),λe b=>(by cases b)⟩,h.own.aw (av.of g) (λj e e2=>h.nl (by rw[e];exact e2.symm)),h.at_.aw (av.of g) (λe b e2=>h.ne e b (aO e2).symm),h.nl,λe b=>⟨h.ne e b,h.s5 e b⟩,g⟩
  rw[<-Le aF (.slice a d.length c)];exact heap_set h.aN _)
 replace h:=J h;clear g;go_enter func157,ntmps157;go_wp2_with fail;exact Z k
theorem qv.pre{b:List El}{e:Ending}(g:w.grownBy W none)(h:qv W k i p b e v):qv w k i p b e v:=by
 obtain⟨a,n,c,d,f,j,l,m,q,r⟩:=h;exact⟨a,n,c,d,f,j,l,m,q,aq (cX g _) r⟩
theorem Lg(w:World)(d sb:Nat)(aF:Int)(last:Value)(f:List El)(h:jc w d sb aF last f)(k:aF≠0):Calls prog 130 #[.pointer (some ⟨sb,0,none⟩)] w (qv w d sb aF f):=by
 obtain⟨R,i⟩:=exq (qv w d sb aF f);rw[<-i];have j:=J (nQ w sb aF h.dC);rw[bK k]at j;have l:=J (λW(g:w.grownBy W none)=>(Lf W d sb aF last f (h.ao g)).mono (λe m p=>(show∃a n c,e=.returned (.slice a n c)/\R e m by
  have b:=qv.pre g p;obtain⟨a,n,c,q,-⟩:=id b;exact⟨a,n,c,q,by rw[i];exact b⟩)))
 replace i:=J i;replace h:=J h;go_enter func130,ntmps130;go_wp2_with fail;refine(Z j).mono ?_;rintro e s⟨rfl,r⟩;go_wp2_with fail;refine(Z l _ r).mono ?_;rintro e t⟨a,n,c,rfl,b⟩;replace b:=J b;go_wp2_with fail;exact Z b
theorem Dm(w:World)(n:Int)(b:0<=n/\n<=4611686018427387903):Calls prog 212 #[.int .u64 n] w λe a=>e=.returned (.agg #[.int .u64 n,.int .u64 (n+1)])/\w.grownBy a none:=by
 have c:IntKind.u64.wrap (n+1)=n+1:=by rw[fh];omega
 go_enter func212,ntmps212;go_wp2_with fail;exact cA (v:=.agg #[.int .u64 n,.int .u64 (n+1)]) (by simp[results,results212,go_sem]) rfl ⟨rfl,by repeat(first|exact aB _ _|apply di|apply aW|apply ba)⟩
theorem LW(w:World):Calls prog 110 #[] w λe a=>e=.returned (.agg #[.int .u64 0,.int .i64 0,.int .i64 4,.slice none 0 0,.slice none 0 0])/\w.grownBy a none:=by
 go_enter func110,ntmps110;go_wp2_with fail;exact cA (v:=.agg #[.int .u64 0,.int .i64 0,.int .i64 4,.slice none 0 0,.slice none 0 0]) (by simp[results,results110,go_sem]) rfl ⟨rfl,by repeat(first|exact aB _ _|apply di|apply aW|apply ba)⟩
def jt(l:List Rg)(floor n:Int):Bool:=decide (n<floor)||l.any (λr=>decide (r.lo<=n)&&decide (n<r.hi))
theorem LY(w:World)(sb no:Nat)(a:Option Addr)(k cap:Nat)(l:List Rg)(floor n:Int)(c0:w.cell? ⟨sb,no,none⟩=some (.slice a k cap))(c1:w.cell? ⟨sb,no+1,none⟩=some (.int .u64 floor))(hs:bu w a k cap l)(v:0<=n/\n<=4611686018427387903):
 Calls prog 160 #[.pointer (some ⟨sb,no,none⟩),.int .u64 n] w λe b=>e=.returned (.bool (jt l floor n))/\w.grownBy b none:=by
 have x:=J (λW=>Dm W n v);have j:=J (λW(g:w.grownBy W none)=>Al a k cap l ⟨n,n+1⟩ W (hs.ao g));simp only at j;by_cases c:n<floor
 ·have dl:decide (n<floor)=true:=bK c;have hp:jt l floor n=true:=by simp[jt,c]
  rw[hp];go_enter func160,ntmps160;go_wp2_with fail;go_big_region;go_wp2_with fail;go_ret;exact⟨rfl,aW (aB _ _)⟩
 have dl:decide (n<floor)=false:=bI c;have m:Hid (jt l floor n=true↔(n+1<=n\/∃r∈l,r.lo<=n/\n+1<=r.hi)):=J (by
  simp only[jt,dl,Bool.false_or,qH,mg,nA]
  constructor;rintro⟨r,d,f,y⟩;exact .inr ⟨r,d,f,by omega⟩
  ·rintro(h|⟨r,d,f,y⟩);omega
   ·exact⟨r,d,f,by omega⟩)
 obtain⟨C,p⟩:=exq (jt l floor n);rw[<-p]at m⊢;clear p;have u0:=kc c0;have u1:=kc c1;have q:w.grownBy w.drew none:=aW (aB _ _);clear c0 c1;go_enter func160,ntmps160;go_wp2_with fail;go_region_held3 (λb=>w.grownBy b none)
  (first|with_reducible exact s|with_reducible exact i|with_reducible exact q)
  (first
    |(go_at_call 212;refine(Z x w.drew).mono ?_;rintro e t⟨rfl,z⟩;have i:w.grownBy t none:=aq q z)
    |(go_at_call 211;refine(Z j t i).mono ?_;rintro e A⟨u,B⟩;have s:w.grownBy A none:=aq i B;obtain rfl:=rO u (Z m);clear u))
 go_wp2_with fail;go_ret;exact⟨rfl,s⟩
theorem LZ(w:World):(zeroValue 341).run prog w=.ok (.agg #[.int .u64 0,.int .u64 0]) w:=by kernel_rfl
theorem L1(l:List Rg)(h:0<l.length):cz (l.drop 1)=(cz l).drop 2:=by
 cases l with
 |nil=>simp at h
 |cons r l=>simp[cz]
theorem L3(ty:TypeId)(c g k cap:Nat)(l:List Rg)(ho:dc w c (.slice (some ⟨g,0,none⟩) (k+1) cap) l):
 ∃a,(Builtin.append_ #[227,227] ty #[.slice (some ⟨g,0,none⟩) 0 cap,.slice (some ⟨g,2,none⟩) k (cap-1)]).run prog w=.ok (.slice (some ⟨g,0,none⟩) k cap) a/\dc a c (.slice (some ⟨g,0,none⟩) k cap) (l.drop 1)/\w.grownBy a (some g)/\k+1<=cap/\l.length=k+1:=by
 obtain⟨i,E,⟨h0,-⟩|⟨m,n,f,e1,e2,h,F,p,q,s⟩⟩:=ho;cases h0;have hl:l.length=k+1:=by have:=(jg e1).2.1;omega
 obtain⟨t,-,v⟩:=jg e1;obtain rfl:g=m:=by cases t;rfl
 obtain rfl:cap=n:=v;obtain⟨x,hi,G,y,H⟩:=lg tq;have z:∀j u,(cz l)[j]?=some u->w.cell? ⟨g,j,none⟩=some u:=λj u b=>by
  have A:j<l.length*2:=by have:=(kF.1 b).1;rwa[qL]at this
  rw[aX h];have:f.toList[j]?=(cz l)[j]? :=by rw[<-s,jA,az A]
  rw[pZ]at this;rw[this];exact b
 have B:w.ownsRow c 341 2 (.slice (some ⟨g,0,none⟩) 0 cap) 0 []:=⟨by simp,.inr ⟨g,cap,f,rfl,e2,h,by omega,p,q,by simp⟩⟩
 obtain⟨a,d,e,C⟩:=run_append_fits (P:=prog) w c 227 ty 341 x 2 underlying227 hi y g 0 cap [] B ⟨g,2,none⟩ k (cap-1) (cz (l.drop 1)) (by rw[qL,dF];omega) (by
  intro j u b;rw[Addr.add_mid];rw[L1 l (by omega),kG]at b;exact z (2+j) u b) (λu D=>uX _ u D) (by omega)
 rw[dR]at d e;rw[jQ]at e;refine⟨a,d,⟨λr d=>i r (iG d),?_⟩,C,by omega,hl⟩
 rw[dF,hl];exact e
theorem L6{c:Array Oper}{K:Act->World->Prop}{E:Prop}(d:H.guard=none)(s x:Operand)
 (ho:H.op=.call {callee:=.builtin .append,args:= #[s,x],argTypes:= #[227,227]}) (b g k cap:Nat) (l:List Rg) (hs:I.eval s=.slice (some ⟨g,0,none⟩) 0 cap) (e:I.eval x=.slice (some ⟨g,2,none⟩) k (cap-1)) (f:dc w b (.slice (some ⟨g,0,none⟩) (k+1) cap) l)
 (h:∀a,dc a b (.slice (some ⟨g,0,none⟩) k cap) (l.drop 1)->w.grownBy a (some g)->K (I.put H.dst (.slice (some ⟨g,0,none⟩) k cap)) a):if Region.wanted H (yielded c I.tmps)=true then Oper.wp prog H I w K F else E:=by
 have i:Region.wanted H (yielded c I.tmps)=true:=by simp[Region.wanted,d]
 rw[az i];obtain⟨a,j,m,n,-⟩:=L3 (w:=w) H.type b g k cap l f;unfold Oper.wp execOp;simp only[ho,resolve,invoke,builtin,iU,mi,iT,nF,ki,mP,hs,e,j]
 exact h a m n
theorem L7(e:dc W n (.slice (some ⟨i,0,none⟩) k j) X)(v:k+1<=j):∃b,(Builtin.clear_ #[227] 0 #[.slice (some ⟨i,k*2,none⟩) 1 (j-k)]).run prog W=.ok (.tuple #[]) b/\dc b n (.slice (some ⟨i,0,none⟩) k j) X/\W.grownBy b (some i):=by
 obtain⟨f,g,⟨h0,-⟩|⟨h,l,a,e1,e2,c,m,p,x,d⟩⟩:=e;cases h0;obtain⟨q,r,s⟩:=jg e1;obtain rfl:i=h:=by cases q;rfl
 obtain rfl:j=l:=s;obtain⟨t,y,u⟩:=AH (w:=W) 0 227 341 _ 2 (by omega) underlying227 LZ (by rfl) (by simp[Value.cells];rfl) i (k*2) 1 (j-k) a _ c (by omega) (by omega);refine⟨_,u,⟨f,g,.inr ⟨i,j,_,e1,e2,setRow_heap W i _ _ _ _ c,m,p,?_,?_⟩⟩,uO _ _ _⟩
 simp only[sT,bH,ct,dF,p7];omega;rw[<-r]at d⊢;rw[<-d,fg];show(a.toList.take (k*2)++(t++a.toList.drop (k*2+1*2))).take (k*2)=a.toList.take (k*2);rw[uy (by rw[ct,p7];omega),List.take_take,Nat.min_self]
theorem L9(w:World)(a g k cap:Nat)(l:List Rg)(ho:dc w a (.slice (some ⟨g,0,none⟩) (k+1) cap) l)(q:0<k)(j:cap<=maxLen):
 Calls prog 216 #[.slice (some ⟨g,0,none⟩) (k+1) cap,.int .i64 0,.int .i64 1] w λe d=>e=.returned (.slice (some ⟨g,0,none⟩) k cap)/\dc d a (.slice (some ⟨g,0,none⟩) k cap) (l.drop 1)/\w.grownBy d (some g):=by
 unfold maxLen at j;have m:=J (ho.ao (aW (aB w none)));have n:k+1<=cap:=(ho.mV.1).2.2.1;clear ho;have r:¬cap=1:=by omega
 have s:¬cap=k:=by omega
 have t:(1:Int)<=(cap:Int):=by omega
 have u:(k:Int)<=(cap:Int):=by omega
 have v:(k:Int)+1<=(cap:Int):=by omega
 have x:(1:Int)<=(k:Int)+1:=by omega
 go_enter func216,ntmps216;go_wp2_with fail;go_region_law ((refine L6 (by rfl) _ _ (by rfl) a g k cap l (by rfl) (by rfl) (Z m) ?_;intro y b c;replace b:=J b;replace c:=J c));obtain⟨f,z,h,i⟩:=L7 (Z b) n;have p:Hid (dc f a (.slice (some ⟨g,0,none⟩) k cap) (l.drop 1)/\w.grownBy f (some g)):=J ⟨h,aq (aq (aW (aB _ _)) (Z c)) i⟩;clear h i;go_wp2_with fail;go_ret;exact⟨rfl,Z p⟩
def eT(l:List Rg)(floor n:Int):List Rg×Int:=
 if 8<(dv l ⟨n,n+1⟩).length then((dv l ⟨n,n+1⟩).drop 1,(au (dv l ⟨n,n+1⟩) 0).hi)else(dv l ⟨n,n+1⟩,floor)
theorem Ma(w:World)(sb no:Nat)(cs:Array Value)(t:TypeId)(a:Option Addr)(k cap:Nat)(l:List Rg)(floor n:Int)(x:w.heap[sb]?=some (.cells cs t (0,0)))(c0:cs[no]?=some (.slice a k cap))(c1:cs[no+1]?=some (.int .u64 floor))(hs:bu w a k cap l)(a3:∀y,a=some y->y.block≠sb)(Y:bh l)(bt:l.length<=8)(a4:¬Sm l n)(hn:0<=n/\n<=4611686018427387903):
 Calls prog 164 #[.pointer (some ⟨sb,no,none⟩),.int .u64 n] w λe b=>e=.returned (.tuple #[])/\∃r s u,b.heap[sb]?=some (.cells ((cs.setIfInBounds no (.slice r s u)).setIfInBounds (no+1) (.int .u64 (eT l floor n).2)) t (0,0))/\dc b w.heap.size (.slice r s u) (eT l floor n).1/\w.grownBy b (some sb):=by
 obtain⟨R,L⟩:=exq (λb:World=>∃r s u,b.heap[sb]?=some (.cells ((cs.setIfInBounds no (.slice r s u)).setIfInBounds (no+1) (.int .u64 (eT l floor n).2)) t (0,0))/\dc b w.heap.size (.slice r s u) (eT l floor n).1/\w.grownBy b (some sb));have al:(λ(e:Ending) b=>e=.returned (.tuple #[])/\∃r s u,b.heap[sb]?=some (.cells ((cs.setIfInBounds no (.slice r s u)).setIfInBounds (no+1) (.int .u64 (eT l floor n).2)) t (0,0))/\dc b w.heap.size (.slice r s u) (eT l floor n).1/\w.grownBy b (some sb))=λe b=>e=.returned (.tuple #[])/\R b:=by rw[L]
 rw[al];clear al;have bx:sb<w.heap.size:=(aY.1 x).1;have hk:k=l.length:=hs.2.1;have a8:(⟨n,n+1⟩:Rg).ok:=by constructor<;>simp only[aV]<;>omega
 have M:=J (λW=>Dm W n hn);have D:=J (λW(g:w.grownBy W none)=>Ah W sb no cs t a k cap l ⟨n,n+1⟩ (bA x g) c0 (hs.ao g) a3 Y a8 (by omega));simp only at D;have gr:w.grownBy w.drew none:=aW (aB _ _);have N:=gM c0;have bz:=gM c1;go_enter func164,ntmps164;go_upto_region 0 with fail;go_region_held3 (λ_=>True) (trivial)
  (first
    |(go_at_call 212;refine(Z M w.drew).mono ?_;rintro e w5⟨rfl,g5⟩;have E:w.grownBy w5 none:=aq gr g5)
    |(go_at_call 215;refine(Z D w5 E).mono ?_;rintro e v⟨rfl,a6,f,c6,c,F,z,O,P,G⟩;replace F:=J F;replace z:=J z;replace O:=J O;replace P:=J P;replace G:=J G))
 have ax:c=dv l ⟨n,n+1⟩:=vq Y (Z P) (Z G).2;have aC:c≠l:=λe=>a4 ((e▸((Z G).2 n)).2 (.inr (by omega)))
 have H:dc v w.heap.size (.slice a6 f c6) c:=by
  obtain h|h:=Z O
  exact absurd h.2.2.2 aC;obtain⟨Q,I,S⟩:=h;refine⟨Q,I,?_⟩
  obtain S|⟨g,cp,a0,e1,e2,e3⟩:=S
  exact .inl S;exact .inr ⟨g,cp,a0,e1,bD E.size e2,e3⟩
 have p:=(Z F).2 _ _ (bA x E);have g6:w.grownBy v (some sb):=aq (cX E _) (Z F).1;have K:f=c.length:=(Z z).2.1;have bM:=(Z z).2.2.1;have a1:=(Z z).2.2.2.1;have k0:v.cell? ⟨sb,no,none⟩=some (.slice a6 f c6):=by rw[aX p];exact cB N
 have a2:Hid (eT l floor n=if 8<c.length then(c.drop 1,(au c 0).hi)else(c,floor)):=J (by unfold eT;rw[<-ax]);clear ax aC;by_cases h8:8<f
 ·have d8:decide ((8:Int)<(f:Int))=true:=bK (by omega);have d:=Z a2;rw[az (by omega)]at d;obtain⟨g,rfl⟩:∃g,a6=some ⟨g,0,none⟩:=by
   obtain⟨-,-,⟨h0,-⟩|⟨g,cp,a0,e1,-⟩⟩:=H;cases h0;omega;cases e1;exact⟨g,rfl⟩
  have b0:w.heap.size<=g:=(H.lt g rfl).1;obtain⟨-,y1⟩:=(Z z).cell 0 (by omega);rw[nG,ou]at y1;obtain⟨fl,T⟩:=exq ((au c 0).hi);rw[<-T]at y1 d;obtain⟨m,rfl⟩:∃m,f=m+1:=⟨f-1,by omega⟩
  obtain⟨A,C⟩:=exq (v.setCell ⟨sb,no+1,none⟩ (.int .u64 fl));have B:A.heap[sb]?=some (.cells ((cs.setIfInBounds no (.slice (some ⟨g,0,none⟩) (m+1) c6)).setIfInBounds (no+1) (.int .u64 fl)) t (0,0)):=by rw[C];exact heap_set p _
  have g7:v.grownBy A (some sb):=by rw[C];exact aI (aB _ _) _ _ (.inr rfl)
  have a9:(Value.slice (some ⟨g,0,none⟩) (m+1) c6).ownBlock≠some sb:=λe=>by have h:g=sb:=aO e;omega
  have bb:=H.gb g7 (.inr a9);have hD:=J (L9 A w.heap.size g m c6 c bb (by omega) a1);have q0:A.cell? ⟨sb,no,none⟩=some (.slice (some ⟨g,0,none⟩) (m+1) c6):=by rw[aX B,bg (by omega)];exact cB N
  have k1:v.cell? ⟨sb,no+1,none⟩=some (.int .u64 floor):=by rw[aX p,bg (by omega)];exact c1
  have f1:v.frozen? ⟨sb,no+1,none⟩=false:=by simp[World.frozen?,p]
  have U:Hid (∀q,dc q w.heap.size (.slice (some ⟨g,0,none⟩) m c6) (c.drop 1)->A.grownBy q (some g)->R (q.setCell ⟨sb,no,none⟩ (.slice (some ⟨g,0,none⟩) m c6))/\q.cell? ⟨sb,no,none⟩=some (.slice (some ⟨g,0,none⟩) (m+1) c6)/\q.frozen? ⟨sb,no,none⟩=false):=J (λq Q I=>by
   have bj:sb<A.heap.size:=(aY.1 B).1;have V:=(I.block sb bj (λe=>by have:=aO e;omega)).trans B;have gs:=aI (aB q (some sb)) ⟨sb,no,none⟩ (.slice (some ⟨g,0,none⟩) m c6) (.inr rfl);refine⟨?_,by rw[aX V,<-aX B];exact q0,by simp[World.frozen?,V]⟩
   rw[L,d];refine⟨some ⟨g,0,none⟩,m,c6,?_,Q.gb gs (.inr (λe=>by have h:g=sb:=aO e;omega)),?_⟩
   rw[heap_set V];congr 2;apply Array.ext_getElem?;intro i;by_cases hi:i=no;subst hi;rw[cB (by simp;omega),bg (by omega),cB N];by_cases br:i=no+1;subst br;rw[bg (by omega),cB (by simp;omega),cB (by simp;omega)];rw[bg (by omega),bg (by omega),bg (by omega),bg (by omega),bg (by omega)]
   ·exact aq (cF (aq g6 g7) I (λj e=>.inl (by have:=aO e;omega))) gs)
  have i0:(0:Int)<((m+1:Nat):Int):=by omega
  unfold maxLen at a1;clear D M;replace p:=J p;replace B:=J B;replace K:=J K;replace T:=J T;replace d:=J d;replace C:=J C;replace x:=J x;go_upto_region 3 with fail;rw[<-Z C];go_wp2_with fail;refine(Z hD).mono ?_;rintro e q⟨rfl,o8,g8⟩;obtain⟨X,z8,f8⟩:=Z U q o8 g8;replace X:=J X;clear o8 g8;go_wp2_with fail;exact eW (et rfl _ _ _) rfl ⟨rfl,Z X⟩
 have d8:decide ((8:Int)<(f:Int))=false:=bI (by omega);have d:=Z a2;rw[ah (by omega)]at d;have U:Hid (R v):=J (by
  rw[L,d];refine⟨a6,f,c6,?_,H,g6⟩
  rw[p];congr 2;exact(tA (by rw[bg (by omega)];exact c1)).symm)
 replace K:=J K;replace d:=J d;replace p:=J p;replace x:=J x;clear D M;go_wp2_with fail;exact eW (et rfl _ _ _) rfl ⟨rfl,Z U⟩
theorem Mb(b:List Int):∀(k p:Nat)(c d:List Fr),iz b k p c=(some d,-1)->(∀f∈c,cU f)->∀f∈d,cU f:=by
 intro k;induction k with
 |zero=>intro p c d h;simp[iz]at h
 |succ k l=>
  intro p c d h i;unfold iz at h;split at h;split at h;simp at h;rename_i f q a;refine l q (c++[f]) d h (λg e=>?_);obtain e|e:=bQ.1 e
  exact i g e;rw[cS.1 e];unfold mU at a;cases j:fD b (b.getD p 0) (p+1)with
  |none=>rw[j]at a;cases a
  |some x=>
   rw[j]at a;simp only[eV]at a;split at a;rename_i hs;simp only[mf]at a;rw[a]at hs;exact hs;cases a
  simp only[qI,mf]at h;rw[<-h.1];exact i
theorem wu{a:List Fr}(h:fE L=(some a,-1)):∀f∈a,cU f:=by
 unfold fE at h;split at h;simp at h;exact Mb L _ _ _ _ h (λf b=>(by cases b))
structure gS(ag:Int)(i:It):Prop where
 ok:bh i.h.af
 fr:0<=i.h.fr
 kQ:∀m,Sm i.h.af m->0<=m/\m<i.h.fr+ag
 lA:∀m,Sm i.h.af m->m<i.h.fr+i.h.bytes.length
 low:i.given=false->∀m,0<=m->m<i.h.fr->Sm i.h.af m
 len:(i.h.bytes.length:Int)<=ag
 en:i.h.fr+i.h.bytes.length<=4611686018427387903
 sA:i.given=true->i.h.af=[]/\i.h.bytes=[]
theorem gS.cl(h:gS p u)(k:p<=1024):u.h.af.length<=1026:=by
 cases a:u.h.af with
 |nil=>simp
 |cons r l=>
  have b:=h.ok;rw[a]at b;by_cases d:u.given=false;have c:=b.tail.AY u.h.fr (u.h.fr+p) (λm e=>by
   have i:=h.kQ m (by rw[a];exact(eu r l m).2 (.inr e));refine⟨?_,i.2⟩
   by_cases n:m<u.h.fr;exfalso;have q:=b.behind e;have j:=b.2 r (by simp);have h0:=(h.kQ r.lo (by rw[a];exact(eu r l r.lo).2 (.inl ⟨cW _,j⟩))).1;have f:=h.low d r.hi (by omega) (by omega);rw[a]at f;obtain g|g:=(eu r l r.hi).1 f
   omega;have:=b.behind g;omega
   ·omega)
  simp only[dq]
  omega;have c:=(h.sA (by simpa using d)).1;rw[a]at c;cases c
theorem gS.nice(h:gS p u)(a:p<=1024):u.h.nice:=by
 have b:=h.len;have c:=h.cl a;exact⟨h.fr,h.en,h.ok,by omega,by omega⟩
theorem Mc(M:List Rg):∀b:List Int,(∀x∈M,p<=x.lo/\q<=x.lo/\x.lo<=x.hi/\x.hi<=q+L.length)->b.length<=(gL p q L M b).length/\(∀x∈M,(x.hi-p).toNat<=(gL p q L M b).length)/\∀N:Nat,b.length<=N->(∀x∈M,(x.hi-p).toNat<=N)->(gL p q L M b).length<=N:=by
 induction M with
 |nil=>exact λb _=>⟨aP _,λx c=>(by cases c),λN h _=>h⟩
 |cons x M f=>
  intro b h;have c:=h x (by simp);have hl:=At (L:=L) (K:=b) c.1 c.2.1 c.2.2.1 c.2.2.2;obtain⟨j,g,i⟩:=f (lQ p q L b x) (λy a=>h y (by simp[a]));have e:gL p q L (x::M) b=gL p q L M (lQ p q L b x):=rfl;rw[e];refine⟨by omega,λy a=>?_,λN k d=>?_⟩
  obtain rfl|a:=fk.1 a
  omega;exact g y a;have l:=d x (by simp);exact i N (by omega) (λy a=>d y (by simp[a]))
theorem Md(h:gS p u)(c:u.given=false)(ho:0<=q){x:Rg}(a:x∈jk u.h.af ⟨q,r⟩):u.h.fr<=x.lo/\q<=x.lo/\x.lo<=x.hi/\x.hi<=r:=by
 have d:=tw u.h.af ⟨q,r⟩;have e:=d.2 x a;have b:=(qi u.h.af ⟨q,r⟩ x.lo).1 ⟨x,a,cW _,e⟩;have f:=(qi u.h.af ⟨q,r⟩ (x.hi-1)).1 ⟨x,a,by omega,by omega⟩;simp only at b f;refine⟨?_,by omega,by omega,by omega⟩
 by_cases hl:x.lo<u.h.fr;exact absurd (h.low c x.lo (by omega) hl) b.2;omega
theorem gS.data(h:gS p u)(f:Fr)(ho:0<=f.offset)(r:aT f<=4611686018427387903)(j:u.given=false->aT f<=u.h.fr+p):gS p (u.data f):=by
 have s:((aG f.data).length:Int)=f.data.size:=by rw[fu]
 cases b:u.given;have g:∀x∈jk u.h.af ⟨f.offset,aT f⟩,u.h.fr<=x.lo/\f.offset<=x.lo/\x.lo<=x.hi/\x.hi<=f.offset+(aG f.data).length:=λx c=>by
  have:=Md h b ho c;unfold aT at this;omega
 obtain⟨t,l,n⟩:=Mc (p:=u.h.fr) (q:=f.offset) (L:=aG f.data) (jk u.h.af ⟨f.offset,aT f⟩) u.h.bytes g;have e:u.data f={u with high:=max u.high (aT f),ended:=u.ended||f.fin,last:=if f.fin then aT f else u.last,h:=⟨u.h.fr,gL u.h.fr f.offset (aG f.data) (jk u.h.af ⟨f.offset,aT f⟩) u.h.bytes,dv u.h.af ⟨f.offset,aT f⟩⟩}:=by
  unfold It.data;rw[b];rfl
 rw[e];have q:=h.fr;have j:=j b;have v:(gL u.h.fr f.offset (aG f.data) (jk u.h.af ⟨f.offset,aT f⟩) u.h.bytes).length<=max u.h.bytes.length (aT f-u.h.fr).toNat:=n _ (by omega) (λx c=>by have:=g x c;unfold aT;omega);have w:=h.len;have y:=h.en;refine⟨mW _ h.ok,q,λm i=>?_,λm i=>?_,λ_ m h0 a=>(jE _ h.ok m).2 (.inl (h.low b m h0 a)),by simp only;omega,by simp only;omega,λe=>by simp only at e;rw[b]at e;cases e⟩
 obtain a|a:=(jE _ h.ok m).1 i
 exact h.kQ m a;simp only at a⊢;omega;simp only
 obtain a|a:=(jE _ h.ok m).1 i
 have:=h.lA m a;omega;by_cases k:Sm u.h.af m;have:=h.lA m k;omega;obtain⟨x,c,z,A⟩:=(qi u.h.af ⟨f.offset,aT f⟩ m).2 ⟨a,k⟩;have:=l x c;have:=g x c;omega;have e:(u.data f).h=u.h/\(u.data f).given=u.given:=by unfold It.data;rw[b];exact⟨rfl,rfl⟩
 refine⟨by rw[e.1];exact h.ok,by rw[e.1];exact h.fr,by rw[e.1];exact h.kQ,by rw[e.1];exact h.lA,λe2=>(by rw[e.2,b]at e2;cases e2),by rw[e.1];exact h.len,by rw[e.1];exact h.en,λ_=>by rw[e.1];exact h.sA b⟩
theorem gS.reset(h:gS p u)(f:Fr):gS p (u.reset f):=by
 have c:=h.len;have d:=h.en;cases b:u.given;have e:(u.reset f).h=⟨u.h.fr,[],[]⟩/\(u.reset f).given=true:=by unfold It.reset;rw[b];exact⟨rfl,rfl⟩
 refine⟨by rw[e.1];exact bh.nil,by rw[e.1];exact h.fr,λm a=>by rw[e.1]at a;exact absurd a (fM m),λm a=>by rw[e.1]at a;exact absurd a (fM m),λe2=>(by rw[e.2]at e2;cases e2),by rw[e.1];simp only[fB];omega,by rw[e.1];simp only[fB];omega,λ_=>by rw[e.1];exact⟨rfl,rfl⟩⟩
 have e:(u.reset f).h=u.h/\(u.reset f).given=true:=by unfold It.reset;rw[b];exact⟨rfl,rfl⟩
 refine⟨by rw[e.1];exact h.ok,by rw[e.1];exact h.fr,by rw[e.1];exact h.kQ,by rw[e.1];exact h.lA,λe2=>(by rw[e.2]at e2;cases e2),by rw[e.1];exact h.len,by rw[e.1];exact h.en,λ_=>by rw[e.1];exact h.sA b⟩
structure mu(s:Sd):Prop where
 ag:0<=s.ag/\s.ag<=1024
 aJ:∀k,k<4->gS s.ag (s.aJ k)
 pre:lV s
 fl:s.aK.length<=10
 ll:s.lost.length<=39000000
def my(s:Sd)(f:Fr):Prop:=f.kind=5->(s.aJ f.stream.toNat).given=false->aT f<=(s.aJ f.stream.toNat).h.fr+s.ag
theorem cU.st(h:cU G):0<=G.stream/\G.stream<4:=⟨h.1.2.2.1,h.1.2.2.2⟩
theorem cU.en(h:cU G)(a:G.kind=5):aT G<=4611686018427387903:=by
 have:=h.2.1.2 a;unfold aT;omega
theorem mu.tk(h:mu s)(hs:cU G)(ho:0<=G.offset)(b:my s G):BH s G:=by
 have d:=hs.st;have e:G.stream.toNat<4:=by omega
 have hi:=h.aJ _ e;have f:=h.ag;refine⟨d,λg=>(hs.2.1.1 g).1,ho,λa=>hs.en a,hi.nice f.2,λa c m j k i=>?_⟩
 have b:=b a c;refine⟨?_,by omega⟩
 by_cases hl:m<(s.aJ G.stream.toNat).h.fr;exact absurd (hi.low c m (by omega) hl) i;omega
theorem Dn(s:Sd)(l:List Rg):(s.dT l).aK.length<=s.aK.length/\(s.dT l).lost.length<=s.lost.length+s.aK.length:=by
 have a:=ny (λx:Pk=> !decide (x.num+3<=(au l 0).hi)) (s.aK.filter (λx=> !bL l x.num));have b:=ny (λx:Pk=> !bL l x.num) s.aK;have c:=ny (λx:Pk=> !bL l x.num) s.lost;have d:=ny (λx:Pk=>decide (x.num+3<=(au l 0).hi)) (s.aK.filter (λx=> !bL l x.num));have a5:=ny (λx:Pk=> !x.ps.all (kS ((s.eE l).out x.st.toNat))) (s.eE l).lost;have e1:(s.dT l).aK=(s.aK.filter (λx=> !bL l x.num)).filter (λx=> !decide (x.num+3<=(au l 0).hi)):=rfl;have e2:(s.dT l).lost=(s.eE l).lost.filter (λx=> !x.ps.all (kS ((s.eE l).out x.st.toNat))):=rfl;have e:(s.eE l).lost.length=(s.lost.filter (λx=> !bL l x.num)).length+((s.aK.filter (λx=> !bL l x.num)).filter (λx=>decide (x.num+3<=(au l 0).hi))).length:=by unfold Sd.eE;simp only[bH]
 rw[e1,e2];exact⟨by omega,by omega⟩
theorem lV.dT(h:lV s)(l:List Rg):lV (s.dT l):=by
 have a:=h.eE l;refine⟨a.out,λx c=>a.pk x ?_,a.num⟩
 have d:x∈(s.eE l).aK++(s.eE l).lost.filter (λx=> !x.ps.all (kS ((s.eE l).out x.st.toNat))):=c;obtain b|b:=bQ.1 d
 exact iH _ b;exact jO _ (iy.1 b).1
def dp(s:Sd):List Fr->Int×Sd
 |[]=>(0,s)
 |f::r=>if(s.take f).1=0 then dp (s.take f).2 r else s.take f
structure lC(s a:Sd):Prop where
 ag:a.ag=s.ag
 key:a.key=s.key
 first:a.first=s.first
 count:a.count=s.count
 an:a.an=s.an
 aJ:∀k,(a.aJ k).h.fr=(s.aJ k).h.fr/\((a.aJ k).given=false->(s.aJ k).given=false)
theorem lC.rfl'(s:Sd):lC s s:=⟨rfl,rfl,rfl,rfl,rfl,λ_=>⟨rfl,id⟩⟩
theorem lC.trans{b c:Sd}(h:lC s b)(k:lC b c):lC s c:=⟨k.ag.trans h.ag,k.key.trans h.key,k.first.trans h.first,k.count.trans h.count,k.an.trans h.an,λi=>⟨(k.aJ i).1.trans (h.aJ i).1,λe=>(h.aJ i).2 ((k.aJ i).2 e)⟩⟩
theorem Dp(i:It)(f:Fr):(i.data f).h.fr=i.h.fr/\(i.data f).given=i.given:=by
 unfold It.data;refine⟨?_,rfl⟩
 simp only
 split<;>rfl
theorem Dq(i:It)(f:Fr):(i.reset f).h.fr=i.h.fr/\(i.reset f).given=true:=by
 unfold It.reset;refine⟨?_,rfl⟩
 simp only
 split<;>rfl
theorem take_same(s:Sd)(f:Fr):lC s (s.take f).2:=by
 have b:∀(k:Nat)(a:It),a.h.fr=(s.aJ k).h.fr->(a.given=false->(s.aJ k).given=false)->lC s {s with aJ:=ai s.aJ k a}:=λk a c d=>⟨rfl,rfl,rfl,rfl,rfl,λj=>by
  by_cases e:j=k;subst e;simp only[bk];exact⟨c,d⟩
  ·show(ai s.aJ k a j).h.fr=_/\((ai s.aJ k a j).given=false->_)
   rw[bl _ _ e];exact⟨rfl,id⟩⟩
 unfold Sd.take;split;split;exact lC.rfl' s;exact⟨rfl,rfl,rfl,rfl,rfl,λ_=>⟨rfl,id⟩⟩
 split;split;exact lC.rfl' s;exact b _ _ (Dq _ f).1 (λe=>by rw[(Dq _ f).2]at e;cases e);split;split;exact lC.rfl' s;exact b _ _ (Dp _ f).1 (λe=>by rw[(Dp _ f).2]at e;exact e);split<;>exact lC.rfl' s
theorem mu.take(h:mu s){B:Nat}(hs:cU G)(ho:0<=G.offset)(f:my s G)(i:s.lost.length+10<=B)(k:B<=39000000):mu (s.take G).2/\(s.take G).2.lost.length<=B:=by
 have l:=hs.st;have b:G.stream.toNat<4:=by omega
 have m:=h.fl;have c:∀(a:It),gS s.ag a->mu {s with aJ:=ai s.aJ G.stream.toNat a}:=λa hi=>⟨h.ag,λj g=>by
  by_cases e:j=G.stream.toNat;subst e;simp only[bk];exact hi
  ·simp only[bl _ _ e];exact h.aJ j g,⟨h.pre.out,h.pre.pk,h.pre.num⟩,h.fl,h.ll⟩
 unfold Sd.take;split;split;exact⟨h,by show s.lost.length<=B;omega⟩
 have hl:=Dn s G.ranges;exact⟨⟨h.ag,h.aJ,h.pre.dT _,by show(s.dT G.ranges).aK.length<=10;omega,by show(s.dT G.ranges).lost.length<=39000000;omega⟩,by show(s.dT G.ranges).lost.length<=B;omega⟩
 split;split;exact⟨h,by show s.lost.length<=B;omega⟩
 exact⟨c _ ((h.aJ _ b).reset G),by show s.lost.length<=B;omega⟩
 split;split;exact⟨h,by show s.lost.length<=B;omega⟩
 rename_i d _;exact⟨c _ ((h.aJ _ b).data G ho (hs.en d) (f d)),by show s.lost.length<=B;omega⟩
 split;exact⟨h,by show s.lost.length<=B;omega⟩
 exact⟨h,by show s.lost.length<=B;omega⟩
theorem my.same{a:Sd}(T:lC s a)(h:my s G):my a G:=λb c=>by
 rw[(T.aJ _).1,T.ag];exact h b ((T.aJ _).2 c)
def Sd.gC(s:Sd)(f:Fr):Bool:=decide (f.kind=5)&&(s.aJ f.stream.toNat).busy f s.ag
def mz(f:Fr):Bool:=decide (f.kind≠3)&&decide (f.kind≠1)
theorem wA(h:s.gC G=false):my s G:=λa b=>by
 unfold Sd.gC It.busy at h;rw[bK a,b]at h;simp only[Bool.true_and,Bool.not_false,sP]at h;omega
theorem Me(w:World)(f:Fr)(h:Value):Calls prog 165 #[.agg (bP f h)] w λe l=>e=.returned (.bool (mz f))/\w.grownBy l none:=by
 obtain⟨k,a⟩:=exq (w.alloc (.cells (bP f h) 158));have i:w.grownBy k none:=by rw[a];exact aH _ _ _
 have j:k.heap[w.heap.size]?=some (.cells (bP f h) 158 (0,0)):=by rw[a];exact aM _ _
 obtain⟨q,b⟩:=exq (mz f);rw[<-b];unfold mz at b;obtain⟨kind,stream,offset,code,fin,data,ranges⟩:=f;unfold bP at *;simp only at *;obtain⟨m,-⟩:=cH j;replace j:=J j;by_cases d:kind=3
 ·subst d;have c:q=false:=by rw[b];rfl
  subst c;clear b;go_enter func165,ntmps165;go_upto_region 1 with fail;rw[<-a];clear a;go_wp2_with fail;go_ret;exact⟨rfl,i⟩
 have n:(kind !=3)=true:=by simpa using d
 by_cases g:kind=1
 ·subst g;have c:q=false:=by rw[b];rfl
  subst c;clear b;go_enter func165,ntmps165;go_upto_region 1 with fail;rw[<-a];clear a;go_wp2_with fail;go_ret;exact⟨rfl,i⟩
 have e1:(kind !=1)=true:=by simpa using g
 have c:q=true:=by rw[b];simp[d,g]
 subst c;clear b d g;go_enter func165,ntmps165;go_upto_region 1 with fail;rw[<-a];clear a;go_wp2_with fail;go_ret;exact⟨rfl,i⟩
theorem Mf(w:World)(L sb:Nat)(cs:Array Value)(v:aU)(s:Sd)(H:bB w L sb cs v s)(Q:0<=s.ag/\s.ag<=1024)(f:Fr)(l:Value)(M:0<=f.stream/\f.stream<4)(m:(s.aJ f.stream.toNat).h.nice)(ho:0<=f.offset)(r:f.kind=5->aT f<=4611686018427387903):
 Calls prog 163 #[.pointer (some ⟨sb,0,none⟩),.agg (bP f l)] w λe t=>e=.returned (.bool (s.gC f))/\w.grownBy t none:=by
 obtain⟨k,N,u⟩:∃k:Nat,k<4/\f.stream=(k:Int):=⟨f.stream.toNat,by omega,by omega⟩
 have x:f.stream.toNat=k:=by omega
 have y:=H.aJ k N;obtain⟨b,c⟩:=exq (w.alloc (.cells (bP f l) 158));have i:w.grownBy b none:=by rw[c];exact aH _ _ _
 have d:b.heap[w.heap.size]?=some (.cells (bP f l) 158 (0,0)):=by rw[c];exact aM _ _
 rw[x]at m;have n:=J (λW(g:w.grownBy W none)(a:f.kind=5)=>FZ W sb (55+9*k) (s.aJ k) (g.cell ((aX H.aN _).trans y.c0) (by simp)) ((y.tail H.aN).ao g) ⟨m.1,by have:=m.2.1;omega⟩ f l ho (by have:=r a;omega) s.ag (by omega));rw[<-tF]at n;have F:s.gC f=(decide (f.kind=5)&&(s.aJ k).busy f s.ag):=by unfold Sd.gC;rw[x]
 rw[F];have R:=kc (i.cell ((aX H.aN _).trans H.c1) (by simp));have O:(k:Int)<4:=by omega
 have d1:decide ((k:Int)<4)=true:=bK O;have p:b.grownBy b.drew none:=aW (aB _ none);clear F m M x y;replace H:=J H;by_cases a:f.kind=5
 ·have G:=J (Z n b.drew (aq i p) a);rw[bK a,Bool.true_and];obtain⟨q,I⟩:=exq ((s.aJ k).busy f s.ag);rw[<-I]at G⊢;clear I n r;obtain⟨kind,stream,offset,code,fin,data,ranges⟩:=f;unfold bP at *;simp only at *;subst a;subst u;obtain⟨j,z,A,B,C,D,E⟩:=cH d;replace j:=kc j;replace z:=kc z;replace A:=kc A;replace B:=kc B;replace C:=kc C;replace D:=kc D;replace E:=kc E;replace d:=J d;go_enter func163,ntmps163;go_upto_region 1 with fail;rw[<-c];clear c;go_region_held3 (λt=>b.grownBy t none)
   (first|with_reducible exact K|with_reducible exact p)
   (first|(go_at_call 214;refine(Z G).mono ?_;rintro e S⟨rfl,P⟩;have K:=aq p P))
  go_wp2_with fail;go_ret;exact⟨rfl,aq i K⟩
 rw[bI a,Bool.false_and];clear n r;obtain⟨kind,stream,offset,code,fin,data,ranges⟩:=f;unfold bP at *;simp only at *;have T:(kind==5)=false:=by simpa using a
 obtain⟨j,z,A,B,C,D,E⟩:=cH d;replace j:=kc j;replace d:=J d;replace u:=J u;clear a;go_enter func163,ntmps163;go_upto_region 1 with fail;rw[<-c];clear c;go_big_region;go_wp2_with fail;go_ret;exact⟨rfl,by first|exact aq i p|exact aq i (by assumption)⟩
theorem Mg(b:List Int):∀(k p:Nat)(a c:List Fr),iz b k p a=(some c,-1)->c.length<=a.length+k:=by
 intro k;induction k with
 |zero=>intro p a c h;simp[iz]at h
 |succ k d=>
  intro p a c h;unfold iz at h;split at h;split at h;simp at h;have:=d _ _ _ h;simp only[bH,dq,fB]at this;omega;simp only[qI,mf]at h;rw[<-h.1];omega
theorem Mh{a:List Fr}(h:fE L=(some a,-1)):a.length<=L.length+1:=by
 unfold fE at h;split at h;simp at h;simpa using Mg L _ _ _ _ h
theorem Mi(w:World)(a:Option Addr)(n cap:Nat)(l:List Int)(c:bF w a n cap l)(hl:l.length<=100000000):Calls prog 146 #[.slice a n cap] w (tX w l):=by
 by_cases h0:l=[]
 subst h0;exact decode_nil w a n cap c;have e:=oj.2 h0;obtain⟨-,f,g,-,d⟩:=id c;obtain⟨d,h⟩|⟨b,o,rfl,-⟩:=d
 omega;exact LQ w b o n cap l c e hl
theorem Dr(w:World)(key:List Int)(f:Bool)(a:Option Addr)(m cap:Nat)(l:List Int)(k:dw key)(j:bF w a m cap l):
 Calls prog 135 #[.agg (cJ key),.bool f,.slice a m cap] w λe b=>
  ((eC key (aS f) l/\∃c d,e=.returned (.tuple #[.int .u64 (bp l),.slice c (l.length-16) d,.nilIface])/\bF b c (l.length-16) d (dN key (aS f) (bp l) (bT l)))\/
    (¬eC key (aS f) l/\e=.returned (.tuple #[.int .u64 0,.slice none 0 0,.iface 34 (.int .i64 4)])))/\w.grownBy b none:=by
 by_cases hl:l.length<16\/300<l.length;refine(Dg key f a m cap l w j hl).mono ?_;rintro e b⟨rfl,g⟩;exact⟨.inr ⟨λh=>by have:=h.1;have:=h.2.1;omega,rfl⟩,g⟩
 refine(Dl key f a m cap l w k j (by omega) (by omega)).mono ?_;rintro e b⟨h,g⟩;refine⟨?_,g⟩
 obtain⟨i,c,d,rfl,n,-,-⟩|⟨i,rfl⟩:=h
 exact .inl ⟨i,c,d,rfl,n⟩;exact .inr ⟨i,rfl⟩
theorem Ds(h:jt X p q=false):¬Sm X q/\p<=q:=by
 unfold jt at h;simp only[oh,sP,List.any_eq_false,mg,nA]at h;exact⟨λ⟨r,a,b⟩=>h.2 r a b,by omega⟩
structure j7(a b:Nat)(W:World)(v:Value)(ay:List dV):Prop where
 own:gR W a v ay
 row:∀k,v.ownBlock=some k->a<=k/\k<b
 rg:∀x∈ay,x.1.ranges≠[]->∀y n c,x.2=.slice (some y) n c->a<=y.block/\y.block<b
theorem gR.Mj{ay:List dV}(h:gR w i z ay):j7 i w.heap.size w z ay:=by
 refine⟨h,λk e=>h.lt k e,λx a b y n c e=>⟨((h.2 x a).2 b y n c e).1,?_⟩⟩
 obtain⟨-,-,ra,cap,e2,d⟩:=(h.2 x a).1;rw[e]at e2;obtain⟨rfl,rfl,rfl⟩:=jg e2;exact d.lt b
theorem j7.aw{ay:List dV}(h:j7 k i W z ay)(C:av W w S)(d:∀j,k<=j->j<i->¬S j):j7 k i w z ay:=by
 obtain⟨⟨q,b⟩,f⟩:=id h.own;refine⟨⟨⟨q,?_⟩,λx a=>⟨(f x a).1.df (λl y n c e r=>C.block _ r (d _ (h.rg x a l y n c e).1 (h.rg x a l y n c e).2)),(f x a).2⟩⟩,h.row,h.rg⟩
 obtain b|⟨g,cap,cur,e1,e2,m,s⟩:=b
 exact .inl b;have p:=h.row g (by rw[e1];rfl);exact .inr ⟨g,cap,cur,e1,e2,(C.block g (aY.1 m).1 (d g p.1 p.2)).trans m,s⟩
theorem j7.ao{ay:List dV}(h:j7 n k W x ay)(g:W.grownBy w none):j7 n k w x ay:=h.aw (av.of g) (λj _ _ e=>by cases e)
def cP(l:List dV)(i:Nat):dV:=l.getD i (cu 0 false,.slice none 0 0)
theorem wB{l:List dV}(h:i<l.length):l[i]?=some (cP l i):=by simp[cP,List.getD,h]
theorem sB{l:List dV}(h:i<l.length):cP l i∈l:=xd (wB h)
theorem j7.gy{ay:List dV}(h:j7 k i W (.slice a n j) ay):n=ay.length/\n<=j/\j<=maxLen:=by
 obtain⟨⟨-,b⟩,-⟩:=h.own;obtain⟨e,c⟩|⟨g,cap,cur,e,aa,f,d,hm,hs,l⟩:=b
 cases e;exact⟨c.symm,aP _,by simp[maxLen]⟩
 cases e;exact⟨rfl,d,hm⟩
theorem j7.cells{ay:List dV}(h:j7 k l W (.slice a n m) ay)(h0:0<n):∃g,a=some ⟨g,0,none⟩/\∀j,j<ay.length->W.rangeAt g (0+j*7) (jT (cP ay j).1 (cP ay j).2):=by
 obtain⟨⟨-,d⟩,-⟩:=h.own;obtain⟨e,s⟩|⟨g,cap,cur,e,aa,f,t,hm,hs,p⟩:=d
 cases e;omega;cases e;refine⟨g,rfl,λi hi j v c=>?_⟩
 have q:ay[i]=cP ay i:=by have:=wB hi;rw[eD hi]at this;exact aO this
 rw[<-q]at c;have b:=LI ay i hi j v c;have r:i*7+j<ay.length*7:=by
  have:=(kF.1 b).1;rwa[LH]at this
 rw[<-p,jA,az r]at b;simp only[World.cell?,f,dR]
 simpa using b
theorem Dt(h:W.rangeAt n o (jT G x)):W.cell? ⟨n,o,none⟩=some (.int .i64 G.kind)/\W.cell? ⟨n,o+1,none⟩=some (.int .i64 G.stream)/\W.cell? ⟨n,o+2,none⟩=some (.int .u64 G.offset)/\W.cell? ⟨n,o+3,none⟩=some (.int .u64 G.code)/\W.cell? ⟨n,o+4,none⟩=some (.bool G.fin)/\W.cell? ⟨n,o+5,none⟩=some (.string G.data)/\W.cell? ⟨n,o+6,none⟩=some x:=
 ⟨h 0 _ rfl,h 1 _ rfl,h 2 _ rfl,h 3 _ rfl,h 4 _ rfl,h 5 _ rfl,h 6 _ rfl⟩
theorem j7.yI{ay:List dV}(h:j7 n k W x ay)(j:Nat)(a:j<ay.length):dr W (cP ay j).1 (cP ay j).2:=(h.own.2 _ (sB a)).1
theorem Dv(w:World)(u v:Nat)(a:Option Addr)(n c d:Nat)(la lb:Array Value)(ay:List dV)(q:Fr->Bool)(h:j7 u v w (.slice a n c) ay)(y:∀args w,(callFunc d args).run prog w=.ok (.enter d args) w)
 (k:∀(W:World)(x:dV),w.grownBy W none->x∈ay->Calls prog d (la++ #[.agg (bP x.1 x.2)]++lb) W (λe r=>e=.returned (.bool (q x.1))/\W.grownBy r none)):
 Calls prog 162 #[.slice a n c,.func (.func d) la lb] w λe s=>e=.returned (.bool ((ay.map (·.1)).any q))/\w.grownBy s none:=by
 obtain⟨E,z,A⟩:=h.gy;obtain⟨b,t⟩:∃b,(0<n->a=some ⟨b,0,none⟩)/\∀j,j<ay.length->w.rangeAt b (0+j*7) (jT (cP ay j).1 (cP ay j).2):=by
  by_cases h0:0<n;obtain⟨g,e,l⟩:=h.cells h0;exact⟨g,λ_=>e,l⟩
  exact⟨0,λl=>absurd l h0,λj F=>by omega⟩
 refine(G7 a b 0 n c d la lb w (λi=>q (cP ay i).1=true) (λi=>.int .i64 (cP ay i).1.kind) (λi=>.int .i64 (cP ay i).1.stream) (λi=>.int .u64 (cP ay i).1.offset) (λi=>.int .u64 (cP ay i).1.code) (λi=>.bool (cP ay i).1.fin) (λi=>.string (cP ay i).1.data) (λi=>(cP ay i).2) t.1 ⟨z,A⟩ y (λW i g hi=>?_) (λW i g hi=>?_)).mono ?_;have:=Dt (t.2 i (by omega));exact⟨g.cell this.1 (by simp),g.cell this.2.1 (by simp),g.cell this.2.2.1 (by simp),g.cell this.2.2.2.1 (by simp),g.cell this.2.2.2.2.1 (by simp),g.cell this.2.2.2.2.2.1 (by simp),g.cell this.2.2.2.2.2.2 (by simp)⟩
 refine(k W (cP ay i) g (sB (by omega))).mono ?_;rintro e r⟨rfl,B⟩;refine⟨?_,B⟩
 have:=nI (p:=q (cP ay i).1=true) (q:=q (cP ay i).1=true) Iff.rfl;simpa using this;rintro e s⟨hs,g⟩;refine⟨rO hs ?_,g⟩
 rw[qH];constructor;rintro⟨f,k,m⟩;obtain⟨x,C,rfl⟩:=eQ.1 k;obtain⟨i,hi,rfl⟩:=jP.1 C;have D:ay[i]=cP ay i:=by have:=wB hi;rw[eD hi]at this;exact aO this
 exact⟨i,by omega,by rw[<-D];exact m⟩
 rintro⟨i,hi,m⟩;exact⟨_,oR (sB (by omega)),m⟩
def Sd.fI(s:Sd)(n:Int)(a:List Fr):Sd:={s with af:=(eT s.af s.floor n).1,floor:=(eT s.af s.floor n).2,eG:=s.eG||a.any mz}
def sC(w:World)(c sb:Nat)(v:aU)(s:Sd)(p:List Int)(e:Ending)(b:World):Prop:=
 (¬eC s.key (aS (!s.first)) p/\e=.returned (bN 4)/\dO w.heap.size w c sb v s b)\/
 (eC s.key (aS (!s.first)) p/\jt s.af s.floor (bp p)=true/\e=.returned .nilIface/\dO w.heap.size w c sb v s b)\/
 (eC s.key (aS (!s.first)) p/\jt s.af s.floor (bp p)=false/\∃(q:Int)(F:Nat),fE (dN s.key (aS (!s.first)) (bp p) (bT p))=(none,q)/\e=.returned (.iface 177 (.pointer (some ⟨F,0,none⟩)))/\w.heap.size<=F/\b.heap[F]?=some (.cells #[.int .i64 5,.int .i64 q] 182 (0,0))/\jd w sb v 5 (s.gQ 5 5) b)\/
 (eC s.key (aS (!s.first)) p/\jt s.af s.floor (bp p)=false/\∃a,fE (dN s.key (aS (!s.first)) (bp p) (bT p))=(some a,-1)/\
   ((a.any s.gC=true/\e=.returned (bN 6)/\dO w.heap.size w c sb v s b)\/
    (a.any s.gC=false/\(dp (s.fI (bp p) a) a).1=0/\e=.returned .nilIface/\dO w.heap.size w c sb v (dp (s.fI (bp p) a) a).2 b)\/
    (a.any s.gC=false/\(dp (s.fI (bp p) a) a).1≠0/\e=.returned (bN (dp (s.fI (bp p) a) a).1)/\jd w sb v (dp (s.fI (bp p) a) a).1 ((dp (s.fI (bp p) a) a).2.gQ (dp (s.fI (bp p) a) a).1 (dp (s.fI (bp p) a) a).1) b)))
theorem jd.dM{b:aU}{l:List (List Int)}(a:cY n w W i D b)(h:jd W i b p l V):jd w i D p l V:=by
 obtain⟨last,f,g,j,C⟩:=h;refine⟨last,f,g.low a.aw.size,j,⟨C.os.trans a.aw.os,C.tape.trans a.aw.tape,C.output.trans a.aw.output,bD a.aw.size C.size,λk c d=>?_⟩⟩
 rw[C.block k (bY c a.aw.size) (λe=>(a.ft k e).elim d (by omega))];exact a.aw.block k c d
theorem Laid.aw(h:Laid w)(C:av w W S)(h0:¬S 0):Laid W:=(lH (C.block 0 h.lt h0)).trans h
theorem Mk(s:Sd)(f:Fr):(s.take f).1=0\/(s.take f).1=7\/(s.take f).1=8\/(s.take f).1=10:=by
 unfold Sd.take;split;split<;>simp;split;split<;>simp;split;split<;>simp;split<;>simp
theorem yJ(s:Sd)(f:Fr)(r:List Fr):dp s (f::r)=if(s.take f).1=0 then dp (s.take f).2 r else s.take f:=rfl
structure ju(w:World)(g sb:Nat)(v:aU)(s1:Sd)(ay:List dV)(a:Option Addr)(n c f d h:Nat)(j:Nat)(b:Sd)(W:World)(k:Array Value)(e:aU):Prop where
 side:bB W g sb k e b
 dM:cY w.heap.size w W sb v e
 fr:j7 f d W (.slice a n c) ay
 n2:d<=W.heap.size
 na:∀i,f<=i->i<d->¬eA sb e i
 ri:mu b
 ll:b.lost.length<=h+10*j
 same:lC s1 b
 all:dp b ((ay.map (·.1)).drop j)=dp s1 (ay.map (·.1))
theorem ju.gb{ay:List dV}{c:Sd}{d:aU}(h:ju w k i D s ay a n l m o b j c W C d)(g:W.grownBy V none):ju w k i D s ay a n l m o b j c V C d:=
 ⟨h.side.ao g,h.dM.trans (cY.ao g),h.fr.ao g,bD h.n2 g.size,h.na,h.ri,h.ll,h.same,h.all⟩
theorem Dw{ay:List dV}(a:j<ay.length):(ay.map (·.1)).drop j=(cP ay j).1::(ay.map (·.1)).drop (j+1):=by
 rw[zG (by simpa using a)];congr 1;have b:ay[j]=cP ay j:=by have:=wB a;rw[eD a]at this;exact aO this
 simp[b]
theorem ju.step{ay:List dV}{c:Sd}{W':World}{t:aU}(h:ju w k l D s ay a n m o b i j c W C t)(v:j<ay.length)(hs:cU (cP ay j).1)(ho:0<=(cP ay j).1.offset)(x:my s (cP ay j).1)(y:i+10*(j+1)<=39000000)(z:dO W.heap.size W k l t (c.take (cP ay j).1).2 W')(h0:(c.take (cP ay j).1).1=0):∃g p,ju w k l D s ay a n m o b i (j+1) (c.take (cP ay j).1).2 W' g p:=by
 obtain⟨g,p,S,d⟩:=z;obtain⟨A,E⟩:=h.ri.take hs ho (x.same h.same) (B:=i+10*(j+1)) (by have:=h.ll;omega) y;have F:=h.dM.aw.size;refine⟨g,p,S,h.dM.trans (d.mono F),h.fr.aw d.aw (λf q r e=>h.na f q r (.inl e)),bD h.n2 d.aw.size,λf q r e=>?_,A,E,h.same.trans (take_same _ _),?_⟩
 obtain u|u:=d.ar f e
 exact h.na f q r u;have:=h.n2;omega;rw[<-h.all,Dw v];rw[yJ,az h0]
theorem ju.stop{ay:List dV}{c:Sd}{d:aU}(h:ju w k i D s ay a n l m o b j c W C d)(e:j<ay.length)(h0:(c.take (cP ay j).1).1≠0):dp s (ay.map (·.1))=c.take (cP ay j).1:=by
 rw[<-h.all,Dw e];rw[yJ,ah h0]
theorem ju.Ml{ay:List dV}{c:Sd}{d:aU}(h:ju w k i D s ay a n l m o b j c W C d)(f:j<ay.length)(hs:cU (cP ay j).1)(g:my s (cP ay j).1):
 Calls prog 166 #[.pointer (some ⟨i,0,none⟩),.agg (bP (cP ay j).1 (cP ay j).2)] W (ku W k i d (c.take (cP ay j).1)):=by
 obtain⟨p,-,ra,cap,e,q⟩:=h.fr.yI j f;rw[e];refine Je W k i C d c h.side h.ri.pre ⟨by have:=h.ri.fl;omega,by have:=h.ri.ll;omega⟩ _ ra _ cap q (λr y t=>?_) (h.ri.tk hs p.2.2.1.1 (g.same h.same));have:=h.fr.rg _ (sB f) r y _ cap (by rw[e,t]);exact⟨λu=>h.na _ this.1 this.2 (.inl u),bY this.2 h.n2⟩
theorem Mm(h:mu s)(n:Int)(a:List Fr):mu (s.fI n a):=⟨h.ag,h.aJ,⟨h.pre.out,h.pre.pk,h.pre.num⟩,h.fl,h.ll⟩
theorem Dx{a:List Fr}(h:a.any s.gC=false)(n:Int):∀f∈a,my (s.fI n a) f:=λf b=>by
 have c:=List.any_eq_false.1 h f b;have d:=wA (s:=s) (G:=f) (by simpa using c);exact λe g=>d e g
theorem ju.start{d:World}{ay:List dV}{g:Nat}{num:Int}(H:bB w l m C D s)(h:w.grownBy W none)(X:w.heap.size<=j)(I:g<=W.heap.size)(hF:j7 j g W (.slice a n b) ay)(K:mu s)
 (L:V.heap[m]?=some (.cells ((C.setIfInBounds 96 (.slice O k i)).setIfInBounds 97 (.int .u64 (eT s.af s.floor num).2)) 241 (0,0))) (p:dc V W.heap.size (.slice O k i) (eT s.af s.floor num).1) (A:W.grownBy V (some m)) (f:V.grownBy d none) (c:Bool) (ho:c=(s.eG||(ay.map (·.1)).any mz)):
 ∃q r,ju w l m D (s.fI num (ay.map (·.1))) ay a n b j g s.lost.length 0 (s.fI num (ay.map (·.1))) (d.setCell ⟨m,98,none⟩ (.bool c)) q r:=by
 have Y:=H.bq.ig;have M:=h.size;have al:=A.size;have ax:=f.size;have N:=bA L f;have P:=heap_set N (o:=98) (.bool c);have t:=aI (aB d (some m)) ⟨m,98,none⟩ (.bool c) (.inr rfl);have u:av W (d.setCell ⟨m,98,none⟩ (.bool c)) (λB=>B=m):=(av.of (aq (aq A (cX f _)) t)).mono (λB _ e=>(aO e).symm);have aC:=t.size;obtain⟨Q,R⟩:=p.mV;have U:bu (d.setCell ⟨m,98,none⟩ (.bool c)) O k i (eT s.af s.floor num).1:=(Q.ao f).df (λ_ x e=>t.block _ (by
  obtain⟨v,z⟩:=p.lt x.block (by rw[e];rfl);omega) (by have:=R x e;simp only[ne_eq,mf];omega))
 have T:=(H.ao h).AQ (.slice O k i) (eT s.af s.floor num).1 (eT s.af s.floor num).2 c P (by simp) (λE hi=>?_) (by simp[H.sz]) (by simp[H.sz]) (by simp[H.sz]) u ⟨O,k,i,rfl,U⟩ (.inr (λy n b e=>?_));obtain⟨q,r,S,F⟩:=T;refine⟨q,r,?_,(cY.ao h).trans (F.mono M),hF.aw u (λa0 v z e=>by omega),bD I u.size,λE v z e=>?_,Mm K _ _,by simp[Sd.fI],lC.rfl' _,rfl⟩
 subst ho;exact S;obtain G|G:=F.ar E e
 have:=nM H.bq G;omega;omega;obtain hi|hi:=hi
 rw[bg (by omega),bg (by omega),bg (by omega)];rw[bg (by omega),bg (by omega),bg (by omega)];obtain⟨rfl,rfl,rfl⟩:=jg e;obtain⟨v,z⟩:=p.lt y.block rfl;omega
theorem Mn(w:World)(i sb:Nat)(cs:Array Value)(v:aU)(s:Sd)(H:bB w i sb cs v s)(j:dw s.key)(a:Option Addr)(m cap:Nat)(p:List Int)(u:bF w a m cap p)(k:¬eC s.key (aS (!s.first)) p):
 Calls prog 131 #[.pointer (some ⟨sb,0,none⟩),.slice a m cap] w (sC w i sb v s p):=by
 obtain⟨R,b⟩:=exq (sC w i sb v s p);rw[<-b];replace b:=J b;have x:=J (nQ w sb 0 H.kP);have l:=H.qu j;have ij:w.cell? ⟨sb,18,none⟩=some (.bool s.first):=(aX H.aN _).trans H.ij;have n:=J (λW(g:w.grownBy W none)=>(Dr W s.key (!s.first) a m cap p j (u.ao g)).mono (λe c h=>show e=.returned (.tuple #[.int .u64 0,.slice none 0 0,.iface 34 (.int .i64 4)])/\W.grownBy c none from⟨by
  obtain q|q:=h.1
  exact absurd q.1 k
  ·exact q.2,h.2⟩))
 have z:=J (λW(g:w.grownBy W none)=>(show R (.returned (.iface 34 (.int .i64 4))) W by rw[Z b];exact .inl ⟨k,rfl,H.to g⟩));have A:(prog.info? 24).map (·.size)=some (bv s.key).length:=by rw[fC,j.1];exact mQ
 have F:=underlying24;clear u k;replace H:=J H;obtain⟨key,r⟩:=exq s.key;obtain⟨f,t⟩:=exq s.first;rw[<-r]at A n l;rw[<-t]at n ij;replace r:=J r;replace t:=J t;simp only[ne_eq,uD,s6]at x;go_enter func131,ntmps131;go_wp2_with fail;refine(Z x).mono ?_;rintro e G⟨rfl,B⟩;have I:=kc ij;have d:=js ⟨l,aB w none⟩ B;clear ij l;go_upto_region 3 with fail;go_region_held3 (λc=>c.rangeAt sb 2 (bv key)/\w.grownBy c none)
  (first|with_reducible exact y|with_reducible exact d|with_reducible exact js d (aW (aB _ none)))
  (first|(go_at_call 135;refine(Z n _ (js d (aW (aB _ none))).2).mono ?_;rintro e C⟨rfl,D⟩;have y:=js (js d (aW (aB _ none))) D;have E:Hid (R (.returned (.iface 34 (.int .i64 4))) C):=J (Z z _ y.2)))
 go_wp2_with fail;exact Z E
theorem Mo(b:bF w a m n L):0<=bp L:=by
 have h:=tS L b.1;unfold bp;by_cases hl:8<=L.length;exact(h 8 hl).1;rw[fJ (by omega)];have:=(h L.length (aP _)).1;rwa[oq]at this
structure qU(w:World)(a sb:Nat)(cs:Array Value)(v:aU)(s:Sd)(p:List Int):Prop where
 at_:bB w a sb cs v s
 key:dw s.key
 recv:mu s
 lost:s.lost.length<=30000000
 bn:0<=s.count/\s.count<=4611686018427387000
 mC:bh s.af
 c8:s.af.length<=8
 laid:Laid w
 n0:¬cg sb v 0
 ok:eC s.key (aS (!s.first)) p
 num:0<=bp p
theorem qU.Mp(h:qU w k i C D s L)(W:World)(g:w.grownBy W none):
 Calls prog 160 #[.pointer (some ⟨i,96,none⟩),.int .u64 (bp L)] W λe b=>e=.returned (.bool (jt s.af s.floor (bp L)))/\W.grownBy b none:=by
 obtain⟨a,n,c,e,d⟩:=h.at_.nP;exact LY W i 96 a n c s.af s.floor (bp L) (g.cell ((aX h.at_.aN _).trans (e▸h.at_.nN)) (by simp)) (g.cell ((aX h.at_.aN _).trans h.at_.oF) (by simp)) (d.ao g) ⟨h.num,h.ok.2.2.2⟩
theorem qU.eT(h:qU w k i C D s L)(hp:jt s.af s.floor (bp L)=false)(W:World)(g:w.grownBy W none):
 Calls prog 164 #[.pointer (some ⟨i,96,none⟩),.int .u64 (bp L)] W λe b=>e=.returned (.tuple #[])/\∃d f j,b.heap[i]?=some (.cells ((C.setIfInBounds 96 (.slice d f j)).setIfInBounds 97 (.int .u64 (eT s.af s.floor (bp L)).2)) 241 (0,0))/\dc b W.heap.size (.slice d f j) (eT s.af s.floor (bp L)).1/\W.grownBy b (some i):=by
 obtain⟨a,n,c,e,l⟩:=h.at_.nP;refine Ma W i 96 C _ a n c s.af s.floor (bp L) (bA h.at_.aN g) (e▸h.at_.nN) h.at_.oF (l.ao g) (λy m e2=>?_) h.mC h.c8 (Ds hp).1 ⟨h.num,h.ok.2.2.2⟩;exact(h.at_.bq.dK 8 (by omega) y n c (by rw[e,m])).1 (.inl e2)
theorem qU.busy(h:qU w k i C D s L)(g:w.grownBy W none){ay:List dV}(hF:j7 j l W (.slice a n m) ay)(hs:∀f∈ay.map (·.1),cU f):
 Calls prog 162 #[.slice a n m,.func (.func 163) #[.pointer (some ⟨i,0,none⟩)] #[]] W λe d=>e=.returned (.bool ((ay.map (·.1)).any s.gC))/\W.grownBy d none:=by
 refine Dv W j l a n m _ #[.pointer (some ⟨i,0,none⟩)] #[] ay s.gC hF (λargs w=>by kernel_rfl) (λp x q b=>?_);have c:=hs x.1 (oR b);have r:=c.st;exact Mf p k i C D s (h.at_.ao (aq g q)) h.recv.ag x.1 x.2 r ((h.recv.aJ _ (by omega)).nice h.recv.ag.2) (hF.own.2 x b).1.1.2.2.1.1 (λt=>c.en t)
theorem Mq{ay:List dV}(hF:j7 k i W (.slice a n j) ay):
 Calls prog 162 #[.slice a n j,.func (.func 165) #[] #[]] W λe b=>e=.returned (.bool ((ay.map (·.1)).any mz))/\W.grownBy b none:=
 Dv W k i a n j _ #[] #[] ay mz hF (λargs w=>by kernel_rfl) (λc x d f=>Me c x.1 x.2)
theorem ju.ended{ay:List dV}{b:Sd}{c:aU}(h:ju w k i D s ay a n j l m o ay.length b W C c):dp s (ay.map (·.1))=(0,b):=by
 rw[<-h.all,uA (by simp)];rfl
theorem ju.fail{ay:List dV}{c:Sd}{W':World}{d:aU}(h:ju w k i D s ay a n l m o b j c W C d)(p:Laid w)(h0:¬cg i D 0)(q:dw s.key)(t:0<=s.count/\s.count<=4611686018427387000)(u:dO W.heap.size W k i d (c.take (cP ay j).1).2 W')(e:Int)(v:0<=e/\e<=1000):
 Calls prog 161 #[.pointer (some ⟨i,0,none⟩),.iface 34 (.int .i64 e)] W' λr f=>r=.returned (.iface 34 (.int .i64 e))/\jd w i D e ((c.take (cP ay j).1).2.gQ e e) f:=by
 obtain⟨x,y,S,z⟩:=u;have T:=h.same.trans (take_same c (cP ay j).1);have g:=h.dM.trans (z.mono h.dM.aw.size);refine(K6 W' k i x y _ S (by rw[T.key];exact q) (by rw[T.count];exact t) (p.aw g.aw h0) e v).mono ?_;rintro r f⟨rfl,A⟩;exact⟨rfl,jd.dM g A⟩
theorem Mr(w:World)(y sb:Nat)(cs:Array Value)(v:aU)(s:Sd)(p:List Int)(h:qU w y sb cs v s p)(a:Option Addr)(m cap:Nat)(aa:bF w a m cap p):
 Calls prog 131 #[.pointer (some ⟨sb,0,none⟩),.slice a m cap] w (sC w y sb v s p):=by
 obtain⟨R,z⟩:=exq (sC w y sb v s p);rw[<-z];replace z:=J z;have hC:=J (nQ w sb 0 h.at_.kP);have a8:=h.at_.qu h.key;have ij:w.cell? ⟨sb,18,none⟩=some (.bool s.first):=(aX h.at_.aN _).trans h.at_.ij;have kO:=kc ((aX h.at_.aN _).trans h.at_.kO);have A:=J (λW(g:w.grownBy W none)=>(Dr W s.key (!s.first) a m cap p h.key (aa.ao g)).mono (λe U G=>show∃a' c',e=.returned (.tuple #[.int .u64 (bp p),.slice a' (p.length-16) c',.nilIface])/\bF U a' (p.length-16) c' (dN s.key (aS (!s.first)) (bp p) (bT p))/\W.grownBy U none from by
  obtain⟨-,a',c',h1,h2⟩|h1:=G.1
  exact⟨a',c',h1,h2,G.2⟩
  ·exact absurd h.ok h1.1))
 have bb:=J h.Mp;have cx:(prog.info? 24).map (·.size)=some (bv s.key).length:=by rw[fC,h.key.1];exact mQ
 have ea:=underlying24;have bj:Hid ((dN s.key (aS (!s.first)) (bp p) (bT p)).length<=300):=J (by
  rw[ng];have:=h.ok.2.1;unfold bT;rw[ct];omega)
 obtain⟨M,H⟩:=exq (dN s.key (aS (!s.first)) (bp p) (bT p));rw[<-H]at A bj;have e5:=h.at_.bq.ig;clear aa;replace h:=J h;obtain⟨key,hK⟩:=exq s.key;obtain⟨f,hf⟩:=exq s.first;obtain⟨num,d⟩:=exq (bp p);obtain⟨pl,br⟩:=exq (p.length-16);rw[<-hK]at cx A a8;rw[<-hf]at A ij;rw[<-d]at A bb;rw[<-br]at A;replace hK:=J hK;replace hf:=J hf;replace d:=J d;replace H:=J H;replace br:=J br;simp only[ne_eq,uD,s6]at hC;go_enter func131,ntmps131;go_wp2_with fail;refine(Z hC).mono ?_;rintro e w1⟨rfl,g1⟩;have ee:=kc ij;have V:=js ⟨a8,aB w none⟩ g1;clear ij a8;go_upto_region 3 with fail;go_region_held3 (λU=>U.rangeAt sb 2 (bv key)/\w.grownBy U none)
  (first|with_reducible exact bt|with_reducible exact V|with_reducible exact js V (aW (aB _ none)))
  (first|(go_at_call 135;refine(Z A _ (js V (aW (aB _ none))).2).mono ?_;rintro e w5⟨a5,c5,rfl,a0,g5⟩;have bt:=js (js V (aW (aB _ none))) g5;replace a0:=J a0))
 clear A ee cx ea;have cy:=bt.2;clear bt V;go_wp2_with fail;refine(Z bb _ cy).mono ?_;rintro e X⟨rfl,g6⟩;have Y:=aq cy g6;have cC:=J ((Z a0).ao g6);clear a0 bb;cases hp:jt s.af s.floor num;rotate_left
 ·have l:Hid (R (.returned .nilIface) X):=J (by
   rw[Z z];exact .inr (.inl ⟨(Z h).ok,by rw[<-Z d];exact hp,rfl,(Z h).at_.to Y⟩))
  go_wp2_with fail;exact Z l
 have db:=J (Mi X a5 pl c5 M (Z cC) (by have:=Z bj;omega));replace hp:=J hp;go_wp2_with fail;refine(Z db).mono ?_;rintro e I⟨g7,⟨ay,a7,n,c7,hd,rfl,hO⟩|⟨q,F,hd,rfl,hF,de⟩⟩;rotate_left
 ·have B:=aq Y g7;have eg:=J (K9 I y sb F cs v s ((Z h).at_.ao B) (Z h).key (Z h).bn ((Z h).laid.gb B (by simp)) 5 (by omega) (by simp[World.cell?,hF]));go_wp2_with fail;refine(Z eg).mono ?_;rintro e w8⟨rfl,bx⟩;have l:Hid (R (.returned (.iface 177 (.pointer (some ⟨F,0,none⟩)))) w8):=J (by
   rw[Z z];have hz:=Y.size;refine .inr (.inr (.inl ⟨(Z h).ok,by rw[<-Z d];exact Z hp,(q:Int),F,?_,rfl,by omega,?_,jd.pre B bx⟩));rw[<-Z H];exact hd
   ·obtain⟨last,e6,-,-,C⟩:=bx;rw[C.block F (aY.1 hF).1 (λe=>by have:=px (Z h).at_.bq e;omega)];exact hF)
  clear bx hF;go_wp2_with fail;exact Z l
 have B:=aq Y g7;have K:=hO.Mj;have ei:=Y.size;have a1:=wu hd;have ej:=Mh hd;rw[dA]at ej;have ek:=J K.gy;have bz:=J ((Z h).busy B K a1);have bM:=J (λW(C:av I W (λk=>k=sb))=>Mq (K.aw C (λj h1 _ e=>by omega)));have b0:=J (λW(g:I.grownBy W none)=>(Z h).eT (by rw[<-Z d];exact Z hp) W (aq B g));rw[<-Z d]at b0;replace hO:=J hO;replace K:=J K;replace a1:=J a1;replace hd:=J hd;obtain⟨fs,b⟩:=exq (ay.map (·.1));rw[<-b]at bz bM;replace b:=J b;clear db cC;go_wp2_with fail;refine(Z bz).mono ?_;rintro e w8⟨rfl,g8⟩;have dg:=aq B g8;cases L:fs.any s.gC;rotate_left
 ·have l:Hid (R (.returned (.iface 34 (.int .i64 6))) w8):=J (by
   rw[Z z];refine .inr (.inr (.inr ⟨(Z h).ok,by rw[<-Z d];exact Z hp,fs,?_,.inl ⟨L,rfl,(Z h).at_.to dg⟩⟩));rw[<-Z H,Z b];exact Z hd)
  go_wp2_with fail;exact Z l
 replace L:=J L;clear bz;go_wp2_with fail;refine(Z b0 _ g8).mono ?_;rintro e N⟨rfl,a9,k9,c9,D,dk,g9⟩;have kO:N.cell? ⟨sb,98,none⟩=some (.bool s.eG):=by rw[aX D,bg (by omega),bg (by omega)];exact(Z h).at_.kO
 have f98:N.frozen? ⟨sb,98,none⟩=false:=by simp[World.frozen?,D]
 have al:=J (λO(ax:N.grownBy O none) ow ho=>ju.start (Z h).at_ dg ei g8.size ((Z K).ao g8) (Z h).recv D dk g9 ax ow ho);have dn:=J (Z bM N (((av.of g8).trans (av.of g9)).mono (λk _ e=>e.elim (λe=>by cases e) (λe=>(aO e).symm))));replace D:=J D;clear dk bM b0;rw[<-Z b]at al;have ds:=J (λj(P:j<ay.length)=>Z a1 (cP ay j).1 (oR (sB P)));have b3:=J (λj(P:j<ay.length)=>Dx (Z L) num (cP ay j).1 (by rw[Z b];exact oR (sB P)));obtain⟨s1,Q⟩:=exq (s.fI num fs);rw[<-Q]at al b3;obtain⟨b4,S⟩:=exq (λW:World=>∃r t,ju w y sb v s1 ay a7 n c7 X.heap.size I.heap.size s.lost.length 0 s1 W r t);replace S:=J S;replace Q:=J Q;go_upto_region 14 with fail;go_cut [] (λwx=>b4 wx);case first=>
  cases a2:s.eG
  ·rw[a2]at kO;go_wp2_with fail;refine(Z dn).mono ?_;rintro e O⟨rfl,ax⟩;have e7:O.frozen? ⟨sb,98,none⟩=false:=by simp[World.frozen?,bA (Z D) ax]
   have e8:=ax.cell kO (by simp);have b5:Hid (b4 (O.setCell ⟨sb,98,none⟩ (.bool (fs.any mz)))):=J (by rw[Z S];exact Z al O ax _ (by rw[a2,Bool.false_or]));go_wp2_with fail;go_meet;exact Z b5
  rw[a2]at kO;have b5:Hid (b4 (N.setCell ⟨sb,98,none⟩ (.bool true))):=J (by rw[Z S];exact Z al N (aB _ _) _ (by rw[a2,Bool.true_or]));go_wp2_with fail;go_meet;exact Z b5
 case rest=>
  rw[Z S]at hcut;rename World=>O
  obtain⟨eo,ew,b6⟩:=hcut;clear dn al kO f98 D S;replace b6:=J b6;have ey:=J (λj u W E r t(G:ju w y sb v s1 ay a7 n c7 X.heap.size I.heap.size s.lost.length j u W r t) x e he=>G.fail (Z h).laid (Z h).n0 (by rw[Z Q];exact(Z h).key) (by rw[Z Q];exact(Z h).bn) x e he (W':=E));have b7:=J (λ(e:Ending)(W:World) G=>(show R e W by
   rw[Z z];refine .inr (.inr (.inr ⟨(Z h).ok,by rw[<-Z d];exact Z hp,fs,?_,.inr G⟩));rw[<-Z H,Z b];exact Z hd))
  rw[<-Z d,<-Z Q]at b7;obtain⟨b8,e9,ez⟩:=Z ek;unfold maxLen at ez;replace b8:=J b8;have eK:Hid (s.lost.length<=30000000):=J (Z h).lost;have fa:=Z bj;go_upto_region 16 with fail;go_loopg [71] (ay.length+1) (λg eL wr=>∃(j:Nat)(u:Sd)(r:Array Value)(t:aU),j<=ay.length/\eL=.int .i64 (j:Int)/\g=ay.length+1-j/\ju w y sb v s1 ay a7 n c7 X.heap.size I.heap.size s.lost.length j u wr r t);case atStart=>exact⟨0,s1,eo,ew,by omega,rfl,by omega,Z b6⟩
  case round=>
   obtain⟨j,u,r,t,eS,rfl,rfl,i⟩:=hrel;have du:=Z b8;by_cases c:j<ay.length
   ·have d1:decide ((j:Int)<(n:Int))=true:=bK (by omega);obtain⟨g,rfl,dx⟩:=i.fr.cells (by omega);obtain⟨y0,y1,y2,y3,y4,y5,y6⟩:=Dt (G:=(cP ay j).1) (by have:=dx j c;rwa[dR]at this);obtain⟨WB,a3⟩:=exq (wr.alloc (.cells (bP (cP ay j).1 (cP ay j).2) 158));have e3:wr.grownBy WB none:=by rw[a3];exact aH _ _ _
    have ca:WB.heap[wr.heap.size]?=some (.cells (bP (cP ay j).1 (cP ay j).2) 158 (0,0)):=by rw[a3];exact aM _ _
    have T:=i.gb e3;have ch:=J (T.Ml c (Z ds j c) (Z b3 j c));have cj:=J (λE x h0=>T.step (W':=E) c (Z ds j c) (i.fr.yI j c).1.2.2.1.1 (Z b3 j c) (by have:=Z eK;omega) x h0);have aC:=J (T.stop c);have cp:=J (λE=>Z ey j u WB E r t T);have a4:=Mk u (cP ay j).1;obtain⟨q,hq⟩:=exq (u.take (cP ay j).1);rw[<-hq]at ch cj aC cp a4;replace hq:=J hq;obtain⟨-,-,ra,fb,dE,-⟩:=i.fr.yI j c;generalize (cP ay j).1.ranges.length=rl at dE;generalize (cP ay j).2=rv at *;subst dE;generalize (cP ay j).1=ff at *;replace i:=J i;replace T:=J T;clear dx;obtain⟨kind,stream,offset,code,fin,data,ranges⟩:=ff;unfold bP at *;simp only at *;have i1:(0:Int)<=(j:Int):=by omega
    have i2:(j:Int)<(n:Int):=by omega
    clear du;obtain⟨x0,x1,x2,x3,x4,x5,x6⟩:=cH ca;replace ca:=J ca;go_upto_region 18 with fail;rw[<-a3];clear y0 y1 y2 y3 y4 y5 y6 a3;go_wp2_with fail;refine(Z ch).mono ?_;rintro e dG⟨rfl,x⟩;by_cases h0:q.1=0
    ·have ev:bN q.1=.nilIface:=by rw[h0];rfl
     rw[ev];obtain⟨e4,v2,cv⟩:=Z cj dG x h0;clear x cj aC cp ch a4;replace cv:=J cv;replace h0:=J h0;go_wp2_with fail;go_roundg (ay.length+1-(j+1));case measure=>omega
     case rel=>exact⟨j+1,q.2,e4,v2,by omega,by push_cast;rfl,rfl,Z cv⟩
    have ev:bN q.1=.iface 34 (.int .i64 q.1):=by unfold bN;rw[ah h0]
    rw[ev];have de:=J (Z cp dG x q.1 (by omega));have l:=J (λW(hS:jd w sb v q.1 (q.2.gQ q.1 q.1) W)=>Z b7 (.returned (.iface 34 (.int .i64 q.1))) W (.inr ⟨Z L,by rw[Z b,Z aC h0];exact h0,by rw[Z b,Z aC h0,ev],by rw[Z b,Z aC h0];exact hS⟩));replace h0:=J h0;replace ev:=J ev;replace a4:=J a4;clear x;go_wp2_with fail;refine(Z de).mono ?_;rintro e fo⟨rfl,hS⟩;replace hS:=J hS;go_wp2_with fail;exact Z l _ (Z hS)
   have P:j=ay.length:=by omega
   have i3:¬((j:Int)<(n:Int)):=by omega
   have i4:¬(j<n):=by omega
   have d1:decide ((j:Int)<(n:Int))=false:=bI (by omega);have d2:decide (j<n)=false:=bI (by omega);have cw:dp s1 (ay.map (·.1))=(0,u):=by subst P;exact i.ended
   have l:Hid (R (.returned .nilIface) wr):=J (by
    refine Z b7 _ _ (.inl ⟨Z L,?_,rfl,?_⟩);rw[Z b,cw]
    ·rw[Z b,cw];exact⟨r,t,i.side,i.dM⟩)
   clear i du P c eS cw;go_wp2_with fail;exact Z l
theorem Ms(w:World)(b sb:Nat)(cs:Array Value)(v:aU)(s:Sd)(p:List Int)(H:bB w b sb cs v s)(d:dw s.key)(f:mu s)(hl:s.lost.length<=30000000)(g:0<=s.count/\s.count<=4611686018427387000)(h:bh s.af)(i:s.af.length<=8)(j:Laid w)(h0:¬cg sb v 0)(a:Option Addr)(m cap:Nat)(c:bF w a m cap p):
 Calls prog 131 #[.pointer (some ⟨sb,0,none⟩),.slice a m cap] w (sC w b sb v s p):=by
 by_cases e:eC s.key (aS (!s.first)) p;exact Mr w b sb cs v s p ⟨H,d,f,hl,g,h,i,j,h0,e,Mo c⟩ a m cap c;exact Mn w b sb cs v s H d a m cap p c e
theorem Mt(w:World)(sb:Nat)(aF:Int)(dC:w.cell? ⟨sb,99,none⟩=some (.int .i64 aF))(h:aF≠0)(b:Value):Calls prog 131 #[.pointer (some ⟨sb,0,none⟩),b] w λr c=>r=.returned (bN 9)/\w.grownBy c none:=by
 have a:=J (nQ w sb aF dC);rw[bK h]at a;go_enter func131,ntmps131;go_wp2_with fail;refine(Z a).mono ?_;rintro e f⟨rfl,d⟩;go_wp2_with fail;go_ret;exact⟨rfl,d⟩
theorem Dy(o:Ot)(p:Pc):o.jY p={o with aA:=(o.jY p).aA}:=by unfold Ot.jY;split<;>rfl
theorem Dz(k:Nat)(a:Int):∀(m:Nat)(x:Ld),(jr k a m x).o={x.o with aA:=(jr k a m x).o.aA}:=by
 intro m;induction m with
 |zero=>exact λx=>rfl
 |succ m b=>
  intro x;unfold jr;split;have c:=b (x.step k (x.o.next x.d (a-x.fr.length)).1);rw[c];have e:=Dy x.o (x.o.next x.d (a-x.fr.length)).1;show({(x.o.jY _)with aA:=_}:Ot)=_;rw[e];rfl
theorem MO(o:Ot)(ps:List Pc)(m:Nat)(h:m<=ps.length):jG o (oG o ps m):=by
 induction m with
 |zero=>exact⟨tw _ _,λm a=>by have:=(qi _ _ m).1 a;exact this.1⟩
 |succ m b=>
  rw[vI o ps m (by omega)];exact(b (by omega)).leave _
theorem MP(s:Sd)(lf:List Kt)(k:Nat)(h:s.aK=lf.map (·.1)):jG (s.out k) (s.due k):=by
 rw[yp s lf k h];exact MO _ _ _ (aP _)
theorem MQ(l:List Kt)(k:Int)(h:∀x∈l,x.1.ps.length<=1000):(dL l k).length<=l.length*1000:=by
 induction l with
 |nil=>simp[dL]
 |cons x l a=>
  have c:=a (λy b=>h y (by simp[b]));have d:=h x (by simp);have e:dL (x::l) k=(if x.1.st=k then x.1.ps else[])++dL l k:=rfl;rw[e,bH,dq];split;omega;simp only[fB];omega
structure tZ(s:Sd)(k:Nat)(a:Sd):Prop where
 eq:a={s with out:=ai s.out k {s.out k with aA:=(a.out k).aA},aK:=a.aK,count:=a.count}
 aA:0<=(a.out k).aA/\(a.out k).aA<=4096
 fl:a.aK.length<=10
 fp:∀x∈a.aK,x.ps.length<=1000
 bn:s.count<=a.count/\a.count<=s.count+10
structure DA(o:Ot):Prop where
 nice:o.h.nice
 en:o.en<=4096
 aA:0<=o.aA/\o.aA<=4096
 code:0<=o.code/\o.code<=4611686018427387903
 cl:o.h.af.length<=5000
theorem MR(j:k<4)(n:16<=s.an/\s.an<=1000)(p:0<=(s.out k).h.fr)(q:(s.out k).en<=4096):∀(m:Nat)(x:Pz),nh s k x->tZ s k x.s->x.s.count<=s.count+x.s.aK.length->tZ s k (ly k m x).s/\(ly k m x).l.length<=10:=by
 intro m;induction m with
 |zero=>exact λx i v E=>⟨v,by have:=i.lf;have:=i.fl;unfold ly;omega⟩
 |succ m w=>
  intro x g a F;have G:=g.lf;have z:=g.fl;have L:=g.ld j n p q;have A:=Dz k (x.s.an-16) ((x.s.an-16).toNat+1) ⟨x.s.out k,x.d,[],[]⟩;have B:(x.load k).o={x.s.out k with aA:=(x.load k).o.aA}:=A;have C:x.s.out k={s.out k with aA:=(x.s.out k).aA}:=by
   have:=fm (λt=>t.out k) a.eq;simpa only[bk]using this
  have D:(x.load k).o={s.out k with aA:=(x.load k).o.aA}:=by
   rw[B];rw[C]
  have r:ai x.s.out k (x.load k).o=ai s.out k {s.out k with aA:=(x.load k).o.aA}:=by
   have e:x.s.out=ai s.out k {s.out k with aA:=(x.s.out k).aA}:=fm (·.out) a.eq;rw[e,qR,<-D]
  have u:∀(o:Nat->Ot)(f:List Pk)(c:Int),({x.s with out:=o,aK:=f,count:=c}:Sd)={s with out:=o,aK:=f,count:=c}:=λo f c=>by rw[a.eq]
  unfold ly;split;exact⟨a,by omega⟩
  split;refine⟨⟨?_,?_,z,a.fp,a.bn⟩,by show x.l.length<=10;omega⟩
  show({x.s with out:=ai x.s.out k (x.load k).o}:Sd)=_;have:=u (ai x.s.out k (x.load k).o) x.s.aK x.s.count;rw[show({x.s with out:=ai x.s.out k (x.load k).o}:Sd)={x.s with out:=ai x.s.out k (x.load k).o,aK:=x.s.aK,count:=x.s.count}from rfl,this,r];simp only[Pz.stay,bk]
  show 0<=(ai x.s.out k (x.load k).o k).aA/\(ai x.s.out k (x.load k).o k).aA<=4096;rw[bk];exact L.aA;rename_i H h0;refine w (x.jb k) (g.jb j n p q (by omega)) ⟨?_,?_,?_,?_,?_⟩ ?_;have:=u (ai x.s.out k (x.load k).o) (x.s.aK++[⟨x.s.count,x.s.tick,k,(x.load k).ps⟩]) (x.s.count+1);show({x.s with out:=ai x.s.out k (x.load k).o,aK:=x.s.aK++[⟨x.s.count,x.s.tick,k,(x.load k).ps⟩],count:=x.s.count+1}:Sd)=_;rw[this,r];simp only[Pz.jb,bk]
  show 0<=(ai x.s.out k (x.load k).o k).aA/\(ai x.s.out k (x.load k).o k).aA<=4096;rw[bk];exact L.aA;unfold Pz.jb;simp only[bH,dq,fB];omega;intro y b;unfold Pz.jb at b;simp only at b;obtain b|b:=bQ.1 b
  exact a.fp y b;rw[cS.1 b];have:=L.pl;have:=L.fl;have:=g.an;simp only;omega;have i:=a.bn;unfold Pz.jb;simp only
  have:(x.s.aK.length:Int)<=9:=by omega
  omega;unfold Pz.jb;simp only[bH,dq,fB];omega
structure l9(s:Sd):Prop where
 key:dw s.key
 an:56<=s.an/\s.an<=1000
 out:∀k,k<4->DA (s.out k)
 fl:s.aK.length<=10
 fp:∀x∈s.aK,x.ps.length<=1000
theorem l9.pz{a:Sd}(h:l9 s)(R:tZ s k a):l9 a:=by
 rw[R.eq];refine⟨h.key,h.an,λj b=>?_,R.fl,R.fp⟩
 by_cases e:j=k;subst e;simp only[bk]
 have:=h.out j b;exact⟨this.nice,this.en,R.aA,this.code,this.cl⟩
 simp only[bl _ _ e]
 exact h.out j b
theorem l9.p0(h:l9 s)(k:Nat)(b:k<4)(e:0<=s.count/\s.count<=4611686018427386000)(lf:List Kt)(a:s.aK=lf.map (·.1)):(s.out k).h.af.length+(dL lf k).length<=100000/\(s.due k).l.length<=800000/\jG (s.out k) (s.due k):=by
 have f:=MQ lf k (λx c=>h.fp x.1 (by rw[a];exact oR c));have g:lf.length<=10:=by have:=fm List.length a;rw[dA]at this;have:=h.fl;omega
 have i:=(h.out k b).cl;have d:=BK (s.out k) (dL lf k) _ (aP _);rw[<-yp s lf k a]at d;exact⟨by omega,by omega,MP s lf k a⟩
theorem yL(h:l9 s)(k:Nat)(a:k<4)(c:0<=s.count/\s.count<=4611686018427386000)(lf:List Kt)(d:s.aK=lf.map (·.1)):tZ s k (s.pieces k).s/\(s.pieces k).l.length<=10:=by
 obtain⟨f,g,e⟩:=h.p0 k a c lf d;have ho:=h.out k a;have b:=h.fl;refine MR a (by have:=h.an;omega) ho.nice.1 ho.en 11 ⟨s,s.due k,[]⟩ ⟨rfl,rfl,rfl,rfl,rfl,ho.aA,e,by simp only;omega,b,by simp only;omega,by simp⟩ ⟨?_,ho.aA,b,h.fp,by simp only;omega⟩ (by simp only;omega);show s={s with out:=ai s.out k (s.out k),aK:=s.aK,count:=s.count}
 rw[ml]
theorem MS(w:World)(a sb k:Nat)(cs:Array Value)(v:aU)(s:Sd)(H:bB w a sb cs v s)(h:l9 s)(b:k<4)(c:0<=s.count/\s.count<=4611686018427386000):
 Calls prog 159 #[.pointer (some ⟨sb,0,none⟩),.int .i64 (k:Int)] w (vQ w a sb v (s.pieces k)):=by
 obtain⟨d,e,f⟩:=h.p0 k b c v.lf H.aK;have ho:=h.out k b;exact Ko w a sb k cs v s H b h.key ho.nice ho.en ho.aA ho.code (by have:=h.an;omega) h.fl c d f e
def cQ(s:Sd):Nat->Sd×List (List Int)
 |0=>(s.fW.s,s.fW.l)
 |k+1=>(((cQ s k).1.pieces k).s,(cQ s k).2++((cQ s k).1.pieces k).l)
def Sd.dh(s:Sd):Sd×List (List Int):=cQ s 4
theorem MT(m:Nat):∀x:Ak,∃c,(mq m x).s={x.s with count:=c}/\x.s.count<=c/\c<=x.s.count+m/\(mq m x).l.length<=x.l.length+m:=by
 induction m with
 |zero=>exact λx=>⟨x.s.count,rfl,cW _,by simp,aP _⟩
 |succ m d=>
  intro x;unfold mq;split;exact⟨x.s.count,rfl,cW _,by omega,by omega⟩
  obtain⟨c,f,a,b,g⟩:=d x.step;refine⟨c,by rw[f];rfl,?_,?_,?_⟩
  unfold Ak.step at a;simp only at a;omega;unfold Ak.step at b;simp only at b;omega;have e:x.step.l.length=x.l.length+1:=by unfold Ak.step;simp
  omega
theorem yM(s:Sd):∃c,s.fW.s={s with eG:=false,count:=c}/\s.count<=c/\c<=s.count+10/\s.fW.l.length<=10:=by
 unfold Sd.fW;cases h:s.eG;simp only[gm,fR]
 exact⟨s.count,by rw[<-h],cW _,by omega,by simp⟩
 simp only[eX]
 obtain⟨c,a,b,d,e⟩:=MT 10 ⟨{s with eG:=false},fG s.af s.af.length,[]⟩;exact⟨c,a,b,d,by simpa using e⟩
theorem l9.fW(h:l9 s):l9 s.fW.s:=by
 obtain⟨c,e,-⟩:=yM s;rw[e];exact⟨h.key,h.an,h.out,h.fl,h.fp⟩
theorem fw.join{f:aU}{i m:List El}(h:fw w n k D i y)(u:n<=w.heap.size)(r:cY w.heap.size w W k D f)(l:fw W w.heap.size k f m x)(v:jn W k f)(A:eO V n z (i++m))(g:W.grownBy V y.ownBlock)(d:z.ownBlock=y.ownBlock\/z.ownBlock=some W.heap.size):fw V n k f (i++m) z/\∀j,y.ownBlock=some j->¬eA k f j:=by
 have p:fw W n k f i y:=h.next (X:=λ_=>False) (r.aw.mono (λ_ _ h=>.inl h)) (λ_ _=>id) (λ_ _=>id) r.ar;have s:gP W n (i++m):=p.at_.app ⟨λe c=>⟨bD u (l.at_.at_ e c).1,(l.at_.at_ e c).2⟩,l.at_.sep⟩ (λa q b B e=>by have:=h.at_.lt q;have:=(l.at_.at_ b B).1;omega);have t:∀e∈i++m,y.ownBlock≠some e.1:=λe c e1=>by
  obtain c|c:=bQ.1 c
  exact h.s5 e c e1;have:=(h.own.lt _ e1).2;have:=(l.at_.at_ e c).1;omega
 refine⟨⟨A,s.aw (av.of g) (λe c e1=>t e c e1),λj e1 q=>?_,λe c=>?_,λe c e1=>?_⟩,p.a5⟩
 obtain d|d:=d
 rw[d]at e1;exact p.a5 j e1 q;rw[d]at e1;have:=aO e1;have:=nM v q;omega;obtain c|c:=bQ.1 c
 exact p.ae e c;exact l.ae e c;obtain d|d:=d
 rw[d]at e1;exact t e c e1;rw[d]at e1;have:=aO e1;have:=s.lt c;omega
theorem MU(h:l9 s)(g:0<=s.count/\s.count<=4611686018427385000)(k:Nat)(i:k<=4):l9 (cQ s k).1/\0<=(cQ s k).1.count/\(cQ s k).1.count<=s.count+10+10*k/\(cQ s k).2.length<=10+10*k:=by
 induction k with
 |zero=>
  obtain⟨c,e,a,b,d⟩:=yM s;have j:(cQ s 0).1.count=c:=by show s.fW.s.count=c;rw[e]
  exact⟨h.fW,by omega,by omega,by show s.fW.l.length<=_;omega⟩
 |succ k f=>
  obtain⟨a,b,d,m⟩:=f (by omega);obtain⟨R,hl⟩:=yL a k (by omega) (by omega) ((cQ s k).1.aK.map (λx=>(x,Value.slice none 0 0))) (by rw[s9];show _=List.map id _;rw[List.map_id]);have n:=R.bn;refine⟨a.pz R,?_,?_,?_⟩
  show 0<=((cQ s k).1.pieces k).s.count;omega;show((cQ s k).1.pieces k).s.count<=_;omega;show((cQ s k).2++((cQ s k).1.pieces k).l).length<=_;rw[bH];omega
def DB(w:World)(g sb:Nat)(v:aU)(r:Sd×List (List Int))(e:Ending)(b:World):Prop:=
 ∃a n c h d f,e=.returned (.slice a n c)/\bB b g sb h d r.1/\cY w.heap.size w b sb v d/\fw b w.heap.size sb d f (.slice a n c)/\f.map (·.2)=r.2
theorem MV(w:World)(c sb:Nat)(cs:Array Value)(v:aU)(s:Sd)(H:bB w c sb cs v s)(h:l9 s)(hc:0<=s.count/\s.count<=4611686018427385000)(a9:s.af.length<=8)(z:bh s.af)(A:∀r∈s.af,0<=r.lo/\r.hi<=4611686018427387904):
 Calls prog 130 #[.pointer (some ⟨sb,0,none⟩)] w (DB w c sb v s.dh):=by
 obtain⟨R,q⟩:=exq (DB w c sb v s.dh);rw[<-q];replace q:=J q;have B:=J (nQ w sb 0 H.kP);have V:=J (λW(g:w.grownBy W none)=>Kx W c sb cs v s (H.ao g) h.key h.an (by omega) a9 z A);have bz:=H.bq.ig;replace z:=J z;replace A:=J A;replace H:=J H;replace h:=J h;simp only[ne_eq,uD,s6]at B;go_enter func130,ntmps130;go_wp2_with fail;refine(Z B).mono ?_;rintro e w1⟨rfl,C⟩;go_wp2_with fail;refine(Z V _ C).mono ?_;rintro e D⟨a2,n2,c2,Y,t,E,rfl,S2,al,d,e2⟩;have F:=C.size;have bb:Hid (bB D c sb Y t (cQ s 0).1/\cY w.heap.size w D sb v t/\fw D w.heap.size sb t E (.slice a2 n2 c2)/\E.map (·.2)=(cQ s 0).2):=J ⟨S2,(cY.ao C).trans (al.mono F),⟨d.own.low F,⟨λe he=>⟨bD F (d.at_.at_ e he).1,(d.at_.at_ e he).2⟩,d.at_.sep⟩,d.a5,d.ae,d.s5⟩,e2⟩;clear S2 al d e2 V B;go_upto_region 5 with fail;go_loopg [3,11] 5 (λg v3 bj wr=>∃(k:Nat)(m:Array Value)(b:aU)(a:List El),k<=4/\bj=.int .i64 (k:Int)/\g=5-k/\bB wr c sb m b (cQ s k).1/\cY w.heap.size w wr sb v b/\fw wr w.heap.size sb b a v3/\a.map (·.2)=(cQ s k).2);case atStart=>exact⟨0,Y,t,E,by omega,rfl,by omega,Z bb⟩
 case round=>
  obtain⟨k,m,b,a,br,rfl,rfl,S,f,L,i⟩:=hrel;obtain⟨G,c3,rfl⟩:=L.slice;by_cases ax:k<4
  ·have d1:decide ((k:Int)<4)=true:=bK (by omega);obtain⟨u,p2,p3,p4⟩:=MU (Z h) hc k br;have I:=J (MS wr c sb k m b _ S u ax (by omega));have bM:a.length<=100:=by have:=fm List.length i;rw[dA]at this;omega
   have x:=(yL u k ax (by omega) b.lf S.aK).2;have K:Hid (cQ s (k+1)=(((cQ s k).1.pieces k).s,(cQ s k).2++((cQ s k).1.pieces k).l)):=J rfl;obtain⟨pz,aC⟩:=exq ((cQ s k).1.pieces k);rw[<-aC]at I x K;clear aC;replace S:=J S;replace L:=J L;replace f:=J f;replace u:=J u;replace i:=J i;replace x:=J x;go_wp2_with fail;refine(Z I).mono ?_;rintro e w4⟨a4,n4,c4,bt,v4,M,rfl,S4,n,N,O⟩;have P:=(Z f).aw.size;have a0:fw w4 w.heap.size sb v4 a (.slice G a.length c3):=(Z L).next (X:=λ_=>False) (n.aw.mono (λ_ _ h=>.inl h)) (λ_ _=>id) (λ_ _=>id) n.ar;have b0:M.length<=10:=by have:=fm List.length O;rw[dA]at this;have:=Z x;omega
   obtain⟨a5,n5,c5,Q,T,o5,y,a1⟩:=Jo (w:=w4) 206 w.heap.size _ a a0.own wr.heap.size _ M N.own (by omega) (bD P n.aw.size);obtain⟨a3,a8⟩:=(Z L).join P n N S4.bq o5 y a1;have hrel:Hid (∃(p:Nat)(m:Array Value)(b:aU)(a:List El),p<=4/\(Value.int .i64 ((k:Int)+1))=.int .i64 (p:Int)/\5-(k+1)=5-p/\bB Q c sb m b (cQ s p).1/\cY w.heap.size w Q sb v b/\fw Q w.heap.size sb b a (.slice a5 n5 c5)/\a.map (·.2)=(cQ s p).2):=J (by
    refine⟨k+1,bt,v4,a++M,by omega,by push_cast;rfl,rfl,?_,?_,a3,?_⟩
    rw[Z K];exact S4.other (av.of y) (λj _ e=>a8 j e);have U:=(Z f).trans (n.mono P);refine⟨(U.aw.trans (av.of y)).mono (λj hj e=>e.elim id (λe=>by have:=((Z L).own.lt j e).1;omega)),U.ft,U.ar⟩
    ·rw[Z K,mO,Z i,O])
   clear a0 a3 a8 S4 n N O o5 y a1 I;replace T:=J T;go_wp2_with (at_builtin;refine pH (by rfl) 206 206 (by rfl) _ _ (by rfl) _ _ _ (by rfl) (by rfl) (Z T) ?_);go_roundg (5-(k+1));case measure=>omega
   case rel=>exact Z hrel
  obtain rfl:k=4:=by omega
  have bx:Hid (R (.returned (.slice G a.length c3)) wr):=J (by rw[Z q];exact⟨G,_,c3,m,b,a,rfl,S,f,L,i⟩);replace S:=J S;replace L:=J L;replace f:=J f;replace i:=J i;go_wp2_with fail;exact Z bx
