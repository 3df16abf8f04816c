import Derived.Laws.OwnMore
import Derived.Test.YtjnmokmchdfchaaGreatDoorX4
import Derived.Test.YtjnmokmchdfchaaGreatDoorX5
import Derived.Test.YtjnmokmchdfchaaGreatDoorX8
set_option maxRecDepth 1000000
set_option maxHeartbeats 0
set_option linter.all false
namespace Go.Proofs.YtjnmokmchdfchaaGreatDoor
open Go.RowKit Tryz
attribute[local go_sem↓]Go.wp_at_zero Go.wp_at_succ
variable{F:Act}{C c:Array Value}{H:Exit->Act->World->Prop}{G:Fr}{p q:Int}{D:List Rg}{b i j k l m n o:Nat}{S:Nat->Prop}{u:Oper}{f:Ot}{s:Sd}{T:TypeId}{x z:Value}{V W w:World}{d:aX}
def bJ(e:Int):Value:=if e=0 then .nilIface else .iface 34 (.int .i64 e)
def wg:bJ 0=.nilIface:=rfl
def om(w:World)(sb:Nat)(aA:Int)(dC:w.cell? ⟨sb,99,none⟩=some (.int .i64 aA)):Calls prog 155 #[.pointer (some ⟨sb,0,none⟩)] w λr a=>r=.returned (.bool (decide (aA≠0)))/\w.grownBy a none:=by
 by_cases h:aA=0
 ·subst h;go_enter func155,ntmps155;go_wp2;go_ret;exact⟨rfl,aB _ _⟩
 have e:(aA !=0)=true:=by simpa using h
 have d:decide (aA≠0)=true:=by simpa using h
 rw[d];clear d;go_enter func155,ntmps155;go_wp2;go_ret;exact⟨rfl,aB _ _⟩
def eO(aA k:Int):Int:=if aA≠0 then 9 else if k<0\/4<=k then 2 else 0
def qF(w:World)(sb:Nat)(aA k:Int)(dC:w.cell? ⟨sb,99,none⟩=some (.int .i64 aA)):Calls prog 152 #[.pointer (some ⟨sb,0,none⟩),.int .i64 k] w λr i=>r=.returned (bJ (eO aA k))/\w.grownBy i none:=by
 have b:=J (om w sb aA dC);by_cases h:aA=0
 ·have d:decide (aA≠0)=false:=by simpa using h
  rw[d]at b;by_cases c:k<0
  ·have e1:decide (k<0)=true:=dO c;have e:eO aA k=2:=by unfold eO;simp[h,c]
   rw[e];replace h:=J h;go_enter func152,ntmps152;go_wp2_with fail;apply(Z b).mono;rintro e g⟨rfl,a⟩;go_wp2;go_ret;exact⟨rfl,a⟩
  have e1:decide (k<0)=false:=eQ c;by_cases f:4<=k
  ·have e2:decide (k≥4)=true:=dO f;have e:eO aA k=2:=by unfold eO;simp[h,f]
   rw[e];replace h:=J h;go_enter func152,ntmps152;go_wp2_with fail;apply(Z b).mono;rintro e g⟨rfl,a⟩;go_wp2;go_ret;exact⟨rfl,a⟩
  have e2:decide (k≥4)=false:=eQ f;have e:eO aA k=0:=by unfold eO;simp[h,c,f]
  rw[e];replace h:=J h;go_enter func152,ntmps152;go_wp2_with fail;apply(Z b).mono;rintro e g⟨rfl,a⟩;go_wp2;go_ret;exact⟨rfl,a⟩
 have d:decide (aA≠0)=true:=by simpa using h
 rw[d]at b;have e:eO aA k=9:=by unfold eO;simp[h]
 rw[e];replace h:=J h;go_enter func152,ntmps152;go_wp2_with fail;apply(Z b).mono;rintro e g⟨rfl,a⟩;go_wp2;go_ret;exact⟨rfl,a⟩
def su(h:eO p q≠0):∃e:Int,bJ (eO p q)=.iface 34 (.int .i64 e):=⟨eO p q,by unfold bJ;rw[az h]⟩
def BF(w:World)(sb:Nat)(aA k:Int)(dC:w.cell? ⟨sb,99,none⟩=some (.int .i64 aA))(h:eO aA k≠0):Calls prog 149 #[.pointer (some ⟨sb,0,none⟩),.int .i64 k] w λr c=>r=.returned (.tuple #[.pointer none,bJ (eO aA k)])/\w.grownBy c none:=by
 have a:=J (qF w sb aA k dC);obtain⟨x,b⟩:=su h;rw[b]at a⊢;clear b h;go_enter func149,ntmps149;go_wp2_with fail;apply(Z a).mono;rintro e f⟨rfl,d⟩;go_wp2_with fail;exact cF (v:=.tuple #[.pointer none,.iface 34 (.int .i64 x)]) (by simp[results,results149,go_sem,bJ]) rfl ⟨rfl,d⟩
def pR(k:Nat):19+k*9=19+9*k:=by omega
def ua(k:Nat):55+k*9=55+9*k:=by omega
def BG(w:World)(sb:Nat)(k:Nat)(l:k<4)(o:Ot)(dC:w.cell? ⟨sb,99,none⟩=some (.int .i64 0))(T:j9 w sb (19+9*k) o):Calls prog 149 #[.pointer (some ⟨sb,0,none⟩),.int .i64 k] w λr f=>r=.returned (if o.sE||o.sG then .tuple #[.pointer none,bJ 3]else .tuple #[.pointer (some ⟨sb,19+9*k,none⟩),.nilIface])/\w.grownBy f none:=by
 have c:=J (qF w sb 0 k dC);have e:eO 0 (k:Int)=0:=by unfold eO;simp;omega
 rw[e,wg]at c;have a:=J (λW(g:w.grownBy W none)=>Ha W sb (19+9*k) o (T.an g));rw[<-pR]at a⊢;have h:(k:Int)<4:=by omega
 have d1:decide ((k:Int)<4)=true:=dO h;clear e;cases hd:(o.sE||o.sG)
 ·rw[hd]at a;go_enter func149,ntmps149;go_wp2_with fail;apply(Z c).mono;rintro e i⟨rfl,b⟩;go_wp2_with fail;apply(Z a _ b).mono;rintro e j⟨rfl,d⟩;go_wp2_with fail;exact cF (v:=.tuple #[.pointer (some ⟨sb,19+k*9,none⟩),.nilIface]) (by simp[results,results149,go_sem,bJ]) rfl ⟨rfl,aq b d⟩
 rw[hd]at a;go_enter func149,ntmps149;go_wp2_with fail;apply(Z c).mono;rintro e i⟨rfl,b⟩;go_wp2_with fail;apply(Z a _ b).mono;rintro e j⟨rfl,d⟩;go_wp2_with fail;exact cF (v:=.tuple #[.pointer none,bJ 3]) (by simp[results,results149,go_sem,bJ]) rfl ⟨rfl,aq b d⟩
def bC.kF(H:bC w n k c d s):w.cell? ⟨k,99,none⟩=some (.int .i64 0):=(ba H.aP _).trans H.dC
def BH(w:World)(sb:Nat)(aA k:Int)(b:Value)(dC:w.cell? ⟨sb,99,none⟩=some (.int .i64 aA))(h:eO aA k≠0):Calls prog 126 #[.pointer (some ⟨sb,0,none⟩),.int .i64 k,b] w λr d=>r=.returned (.tuple #[.int .i64 0,bJ (eO aA k)])/\w.grownBy d none:=by
 have a:=J (BF w sb aA k dC h);obtain⟨x,c⟩:=su h;rw[c]at a⊢;clear c h;go_enter func126,ntmps126;go_wp2_with fail;apply(Z a).mono;rintro e g⟨rfl,f⟩;go_wp2_with fail;exact cF (v:=.tuple #[.int .i64 0,.iface 34 (.int .i64 x)]) (by simp[results,results126,go_sem,bJ]) rfl ⟨rfl,f⟩
def Ot.wrote(o:Ot)(l:List Int)(ag:Int):Ot:={o with h:={o.h with bytes:=o.h.bytes++l.take (o.fI l.length ag)}}
def Sd.write(s:Sd)(k:Nat)(l:List Int):Int×Int×Sd:=
 if(s.out k).sE||(s.out k).sG then(0,3,s)else((s.out k).fI l.length s.ag,0,{s with out:=ah s.out k ((s.out k).wrote l s.ag)})
def IF(w:World)(i sb:Nat)(cs:Array Value)(v:aX)(s:Sd)(H:bC w i sb cs v s)(k:Nat)(c:k<4)(d:Option Addr)(nx f:Nat)(l:List Int)(hl:bI w d nx f l)(p:(s.out k).h.nice)(q:((s.out k).h.bytes.length:Int)<=s.ag/\s.ag<=1000000)(t:(s.out k).h.fr+(s.out k).h.bytes.length<=4096):
 Calls prog 126 #[.pointer (some ⟨sb,0,none⟩),.int .i64 k,.slice d nx f] w λr j=>r=.returned (.tuple #[.int .i64 (s.write k l).1,bJ (s.write k l).2.1])/\dV w.heap.size w i sb v (s.write k l).2.2 j:=by
 have m:=H.out k c;have a:=J (BG w sb k c (s.out k) H.kF (m.tail H.aP));have u:=J (λW(g:w.grownBy W none)=>IC (bB H.aP g) (m.an g) p (bD H.aG g.size) ((H.an g).vZ k c) d nx f l (hl.an g) s.ag q t);have x:=J (λW y(g:w.grownBy W none) o h=>dV.pre (N:=w.heap.size) (dh.an g) (((H.an g).wa (W:=y) k c o h).mono g.size));have c1:=(ba H.aP _).trans H.c1;have z:=J (λW(g:w.grownBy W none)=>H.to (N:=w.heap.size) g);unfold Sd.write;cases hd:((s.out k).sE||(s.out k).sG)
 ·rw[hd]at a;simp only[gI,gm]at a⊢;replace H:=J H;go_enter func126,ntmps126;go_wp2_with fail;apply(Z a).mono;rintro e A⟨rfl,b⟩;have C:=gC_ b c1;go_wp2_with fail;apply(Z u _ b).mono;rintro e D⟨rfl,n⟩;have B:=J (Z x _ _ b _ n);clear n;go_wp2_with fail;exact cF (v:=.tuple #[.int .i64 ((s.out k).fI l.length s.ag),.nilIface]) (by simp[results,results126,go_sem,bJ]) rfl ⟨rfl,Z B⟩
 rw[hd]at a;simp only[fu]at a⊢;rw[show bJ 3=.iface 34 (.int .i64 3)from rfl]at a;replace H:=J H;go_enter func126,ntmps126;go_wp2_with fail;apply(Z a).mono;rintro e A⟨rfl,b⟩;go_wp2_with fail;exact cF (v:=.tuple #[.int .i64 0,bJ 3]) (by simp[results,results126,go_sem,bJ]) rfl ⟨rfl,Z z _ b⟩
def BI(w:World)(sb:Nat)(aA k:Int)(dC:w.cell? ⟨sb,99,none⟩=some (.int .i64 aA))(h:eO aA k≠0):Calls prog 127 #[.pointer (some ⟨sb,0,none⟩),.int .i64 k] w λr c=>r=.returned (bJ (eO aA k))/\w.grownBy c none:=by
 have a:=J (BF w sb aA k dC h);obtain⟨x,b⟩:=su h;rw[b]at a⊢;clear b h;go_enter func127,ntmps127;go_wp2_with fail;apply(Z a).mono;rintro e f⟨rfl,d⟩;go_wp2;go_ret;exact⟨rfl,d⟩
def Sd.finish(s:Sd)(k:Nat):Int×Sd:=
 if(s.out k).sE||(s.out k).sG then(3,s)else(0,{s with out:=ah s.out k {s.out k with sE:=true}})
def IG(w:World)(d sb:Nat)(cs:Array Value)(v:aX)(s:Sd)(H:bC w d sb cs v s)(k:Nat)(b:k<4):
 Calls prog 127 #[.pointer (some ⟨sb,0,none⟩),.int .i64 k] w λr f=>r=.returned (bJ (s.finish k).1)/\dV w.heap.size w d sb v (s.finish k).2 f:=by
 have i:=H.out k b;have a:=J (BG w sb k b (s.out k) H.kF (i.tail H.aP));have l:=J (λW(g:w.grownBy W none)=>vY (bB H.aP g) (i.an g) ((H.an g).vZ k b));have m:=J (λW n(g:w.grownBy W none) o h=>dV.pre (N:=w.heap.size) (dh.an g) (((H.an g).wa (W:=n) k b o h).mono g.size));have p:=J (λW(g:w.grownBy W none)=>H.to (N:=w.heap.size) g);unfold Sd.finish;cases hd:((s.out k).sE||(s.out k).sG)
 ·rw[hd]at a;simp only[gI,gm]at a⊢;replace H:=J H;go_enter func127,ntmps127;go_wp2_with fail;apply(Z a).mono;rintro e q⟨rfl,c⟩;go_wp2_with fail;apply(Z l _ c).mono;rintro e u⟨rfl,j⟩;have t:=J (Z m _ _ c _ j);clear j;go_wp2;go_ret;exact⟨rfl,Z t⟩
 rw[hd]at a;simp only[fu]at a⊢;rw[show bJ 3=.iface 34 (.int .i64 3)from rfl]at a;replace H:=J H;go_enter func127,ntmps127;go_wp2_with fail;apply(Z a).mono;rintro e q⟨rfl,c⟩;go_wp2;go_ret;exact⟨rfl,Z p _ c⟩
def BJ(w:World)(sb:Nat)(aA k:Int)(code:Int)(dC:w.cell? ⟨sb,99,none⟩=some (.int .i64 aA))(h:eO aA k≠0):Calls prog 128 #[.pointer (some ⟨sb,0,none⟩),.int .i64 k,.int .u64 code] w λr c=>r=.returned (bJ (eO aA k))/\w.grownBy c none:=by
 have a:=J (qF w sb aA k dC);obtain⟨x,b⟩:=su h;rw[b]at a⊢;clear b h;go_enter func128,ntmps128;go_wp2_with fail;apply(Z a).mono;rintro e f⟨rfl,d⟩;go_wp2;go_ret;exact⟨rfl,d⟩
def Ot.giveUp(o:Ot)(code:Int):Ot:={o with sE:=false,sG:=true,code:=code,h:={o.h with bytes:=[]}}
def Sd.giveUp(s:Sd)(k:Nat)(code:Int):Int×Sd:=
 if(s.out k).sG=true\/4611686018427387903<code then(3,s)else(0,{s with out:=ah s.out k ((s.out k).giveUp code)})
def IH(w:World)(l sb:Nat)(cs:Array Value)(v:aX)(s:Sd)(H:bC w l sb cs v s)(k:Nat)(f:k<4)(code:Int)(x:aS code):
 Calls prog 128 #[.pointer (some ⟨sb,0,none⟩),.int .i64 k,.int .u64 code] w λr m=>r=.returned (bJ (s.giveUp k code).1)/\dV w.heap.size w l sb v (s.giveUp k code).2 m:=by
 have n:=H.out k f;have d:=J (qF w sb 0 (k:Int) H.kF);have e:eO 0 (k:Int)=0:=by unfold eO;simp;omega
 rw[e,wg]at d;clear e;have b:=J (λW(g:w.grownBy W none)=>yq W sb (19+9*k) (s.out k) ((n.tail H.aP).an g));have p:=J (λW(g:w.grownBy W none)=>IB (bB H.aP g) (n.an g) ((H.an g).vZ k f) code x);have y:=J (λW z(g:w.grownBy W none) o h=>dV.pre (N:=w.heap.size) (dh.an g) (((H.an g).wa (W:=z) k f o h).mono g.size));have q:=J (λW(g:w.grownBy W none)=>H.to (N:=w.heap.size) g);have A:(k:Int)<4:=by omega
 have d1:decide ((k:Int)<4)=true:=dO A;rw[<-pR]at b p;unfold Sd.giveUp;cases hd:(s.out k).sG
 ·rw[hd]at b;by_cases i:4611686018427387903<code
  ·have d2:decide (code>4611686018427387903)=true:=dO i;rw[aD (.inr i)];replace H:=J H;go_enter func128,ntmps128;go_wp2_with fail;apply(Z d).mono;rintro e t⟨rfl,a⟩;go_wp2_with fail;apply(Z b _ a).mono;rintro e u⟨rfl,c⟩;go_wp2;go_ret;exact⟨rfl,Z q _ (aq a c)⟩
  have d2:decide (code>4611686018427387903)=false:=eQ i;rw[az (by simp;omega)];replace H:=J H;go_enter func128,ntmps128;go_wp2_with fail;apply(Z d).mono;rintro e t⟨rfl,a⟩;go_wp2_with fail;apply(Z b _ a).mono;rintro e u⟨rfl,c⟩;go_wp2_with fail;apply(Z p _ (aq a c)).mono;rintro e C⟨rfl,j⟩;rw[pR]at j;have B:=J (Z y _ _ (aq a c) _ j);clear j;go_wp2;go_ret;exact⟨rfl,Z B⟩
 rw[hd]at b;rw[aD (.inl rfl)];replace H:=J H;go_enter func128,ntmps128;go_wp2_with fail;apply(Z d).mono;rintro e t⟨rfl,a⟩;go_wp2_with fail;apply(Z b _ a).mono;rintro e u⟨rfl,c⟩;go_wp2;go_ret;exact⟨rfl,Z q _ (aq a c)⟩
def BK(w:World)(sb:Nat)(aA k:Int)(dC:w.cell? ⟨sb,99,none⟩=some (.int .i64 aA))(h:eO aA k≠0):Calls prog 134 #[.pointer (some ⟨sb,0,none⟩),.int .i64 k] w λr c=>r=.returned (.tuple #[.int .i64 0,bJ (eO aA k)])/\w.grownBy c none:=by
 have a:=J (qF w sb aA k dC);obtain⟨x,b⟩:=su h;rw[b]at a⊢;clear b h;go_enter func134,ntmps134;go_wp2_with fail;apply(Z a).mono;rintro e f⟨rfl,d⟩;go_wp2_with fail;exact cF (v:=.tuple #[.int .i64 0,.iface 34 (.int .i64 x)]) (by simp[results,results134,go_sem,bJ]) rfl ⟨rfl,d⟩
def II(w:World)(d sb:Nat)(cs:Array Value)(v:aX)(s:Sd)(H:bC w d sb cs v s)(k:Nat)(f:k<4)(i:0<=(s.out k).h.fr/\(s.out k).h.fr<=4611686018427387903):
 Calls prog 134 #[.pointer (some ⟨sb,0,none⟩),.int .i64 k] w λr j=>r=.returned (.tuple #[.int .i64 (s.out k).h.fr,.nilIface])/\w.grownBy j none:=by
 have l:=H.out k f;have a:=J (qF w sb 0 (k:Int) H.kF);have e:eO 0 (k:Int)=0:=by unfold eO;simp;omega
 rw[e,wg]at a;clear e;have b:=J (λW(g:w.grownBy W none)=>Hb W sb (19+9*k) (s.out k).h.fr (g.cell ((ba H.aP _).trans l.c0) (by simp)) i);have m:(k:Int)<4:=by omega
 have d1:decide ((k:Int)<4)=true:=dO m;rw[<-pR]at b;replace H:=J H;go_enter func134,ntmps134;go_wp2_with fail;apply(Z a).mono;rintro e p⟨rfl,c⟩;go_wp2_with fail;apply(Z b _ c).mono;rintro e q⟨rfl,n⟩;go_wp2_with fail;exact cF (v:=.tuple #[.int .i64 (s.out k).h.fr,.nilIface]) (by simp[results,results134,go_sem,bJ]) rfl ⟨rfl,aq c n⟩
def BL(w:World)(sb:Nat)(aA k aF:Int)(dC:w.cell? ⟨sb,99,none⟩=some (.int .i64 aA))(h:eO aA k≠0):Calls prog 132 #[.pointer (some ⟨sb,0,none⟩),.int .i64 k,.int .i64 aF] w λr c=>r=.returned (.tuple #[.slice none 0 0,.int .i64 0,.int .u64 0,bJ (eO aA k)])/\w.grownBy c none:=by
 have a:=J (qF w sb aA k dC);obtain⟨x,b⟩:=su h;rw[b]at a⊢;clear b h;go_enter func132,ntmps132;go_wp2_with fail;apply(Z a).mono;rintro e f⟨rfl,d⟩;go_wp2_with fail;exact cF (v:=.tuple #[.slice none 0 0,.int .i64 0,.int .u64 0,.iface 34 (.int .i64 x)]) (by simp[results,results132,go_sem,bJ]) rfl ⟨rfl,d⟩
def IJ(w:World)(f sb:Nat)(cs:Array Value)(v:aX)(s:Sd)(H:bC w f sb cs v s)(k:Nat)(m:k<4)(aF:Int)(z:(s.aL k).h.nice)(A:0<=cV (s.aL k).h/\cV (s.aL k).h<=(s.aL k).h.bytes.length):
 Calls prog 132 #[.pointer (some ⟨sb,0,none⟩),.int .i64 k,.int .i64 aF] w λr d=>∃a n c,r=.returned (.tuple #[.slice a n c,.int .i64 ((s.aL k).state aF),.int .u64 (s.aL k).jx,.nilIface])/\bn d w.heap.size (.slice a n c) ((s.aL k).out aF)/\∃b,w.grownBy b none/\(∀j,(Value.slice a n c).ownBlock=some j->j<b.heap.size)/\dV b.heap.size b f sb v {s with aL:=ah s.aL k ((s.aL k).read aF)} d:=by
 obtain⟨R,i⟩:∃R:Ending->World->Prop,R=λr d=>∃a n c,r=.returned (.tuple #[.slice a n c,.int .i64 ((s.aL k).state aF),.int .u64 (s.aL k).jx,.nilIface])/\bn d w.heap.size (.slice a n c) ((s.aL k).out aF)/\∃b,w.grownBy b none/\(∀j,(Value.slice a n c).ownBlock=some j->j<b.heap.size)/\dV b.heap.size b f sb v {s with aL:=ah s.aL k ((s.aL k).read aF)} d:=⟨_,rfl⟩
 rw[<-i];replace i:=J i;have B:=H.aL k m;have t:=J (qF w sb 0 (k:Int) H.kF);have e:eO 0 (k:Int)=0:=by unfold eO;simp;omega
 rw[e,wg]at t;clear e;have u:=J (λW(g:w.grownBy W none)=>HC W sb (55+9*k) f cs 241 _ _ (s.aL k) (bB H.aP g) (B.an g) z (bD H.aG g.size) ((H.an g).yG k m) aF A);have C:=J (λW D(g:w.grownBy W none) o h=>(H.an g).yH (W:=D) k m o h);have E:(k:Int)<4:=by omega
 have d1:decide ((k:Int)<4)=true:=dO E;rw[<-ua]at u;replace H:=J H;go_enter func132,ntmps132;go_wp2_with fail;apply(Z t).mono;rintro e I⟨rfl,l⟩;go_wp2_with fail;apply(Z u _ l).mono;rintro e F⟨a,n,c,b,rfl,x,p,y,q⟩;rw[ua]at q;have G:Hid (R (.returned (.tuple #[.slice a n c,.int .i64 ((s.aL k).state aF),.int .u64 (s.aL k).jx,.nilIface])) F):=J (by
  rw[Z i];exact⟨a,n,c,rfl,x.low l.size,b,aq l p,y,Z C _ _ (aq l p) _ q⟩)
 clear q x p y;go_wp2_with fail;exact cF (v:=.tuple #[.slice a n c,.int .i64 ((s.aL k).state aF),.int .u64 (s.aL k).jx,.nilIface]) (by simp[results,results132,go_sem,bJ]) rfl (Z G)
def IP(p:w.heap[l]?=some (.cells C T (0,0)))(H:gL w n C b z x f)(A:f.h.nice)(B:n<=w.heap.size)(v:kB w l z x)(a:Rg)(q s:Bool)(D:a.ok)(E:yu f.h a)(F:f.h.af.length<100000):
 Calls prog 252 #[.pointer (some ⟨l,b,none⟩),.agg #[.int .u64 a.lo,.int .u64 a.hi,.bool q,.bool s]] w λr t=>r=.returned (.tuple #[])/\
  ∃(d:List Rg)(k:Nat),(k:Int)=cV ⟨f.h.fr,f.h.bytes,d⟩/\bl d/\d.length<=f.h.af.length+1/\(∀m,Sm d m↔Sm f.h.af m\/(a.lo<=m/\m<a.hi))/\oe w t l T C b n z x {f with tE:=f.tE||q,tG:=f.tG||s,h:=⟨f.h.fr+k,f.h.bytes.drop k,d⟩}/\w.grownBy t (some l):=by
 obtain⟨ab,nb,cb,ac,nc,cc,rfl,rfl⟩:=H.nm;refine(Hl w l b C T ab nb cb ac nc cc f p (H.hd p A) (H.tail p) a q s D (λy e e2=>v.1 (by rw[e,<-e2];rfl)) (λy e=>(v.2 y nc cc (by rw[e])).1) E F).mono ?_;rintro r t⟨rfl,G,I,K,d,L,M,k,N,O,P,Q,g,R,ho,S,u⟩;have U:=gZ H.c8;refine⟨rfl,d,k,N,O,P,Q,⟨_,.slice L (f.h.bytes.drop k).length M,.slice G I K,⟨R,by simp,λi hi=>?_,(ao.of g).mono (λk _ e=>.inl (aQ e).symm),.inr (λj e=>?_)⟩,⟨?_,?_,?_,?_,?_,?_,?_,?_,?_,ho.low B,⟨_,_,_,rfl,S⟩,H.pN⟩,?_⟩,g⟩
 rw[bE,bE,bE,bE,bE];exact(ho.lt j e).1;rw[bE,bE,bE];exact cG (by simp;omega);rw[bE,bE];exact cG (by simp;omega);rw[bE,bE,bE,bE];exact cG;rw[bE,bE,bE,bE,bE];exact H.c3;rw[bE,bE,bE,bE,bE];exact H.c4;rw[bE,bE,bE,bE,bE];exact H.c5;rw[bE];exact cG (by simp;omega);exact cG (by simp;omega);rw[bE,bE,bE,bE,bE];exact H.c8;obtain⟨rfl,rfl,rfl⟩|u:=u
 exact .inl rfl;refine .inr (λy V c e=>?_);have e2:=(js e).1;exact u y e2
def IQ(d:w.heap[n]?=some (.cells c T (0,0)))(H:gL w m c l z x f)(s:f.h.nice)(b:kB w n z x)(k:Int)(a:Rg)(p:Bool)(i j:Nat)(hi:i<=j)(t:j<=f.h.bytes.length)(u:a.lo=f.h.fr+i)(v:a.hi=f.h.fr+j)(A:aS a.hi):
 Calls prog 243 #[.pointer (some ⟨n,l,none⟩),.int .i64 k,.agg #[.int .u64 a.lo,.int .u64 a.hi,.bool p,.bool false]] w λe q=>e=.returned (.agg #[.int .i64 5,.int .i64 k,.int .u64 a.lo,.int .u64 0,.bool p,.string (strOfNums ((f.h.bytes.drop i).take (j-i))),.slice none 0 0])/\oe w q n T c l m z x {f with ay:=max f.ay a.hi}:=by
 obtain⟨ab,nb,cb,ac,nc,cc,rfl,rfl⟩:=H.nm;refine(IN w n l c T ab nb cb ac nc cc f d (H.hd d s) (H.tail d) k a p i j hi t u v (λy e e2=>b.1 (by rw[e,<-e2];rfl)) (λy e=>(b.2 y nc cc (by rw[e])).1)).mono ?_;rintro r q⟨rfl,g,B⟩;have C:aS (max f.ay a.hi):=by
  obtain h|h:=Int.le_total f.ay a.hi
  rw[Int.max_eq_right h];exact A;rw[Int.max_eq_left h];exact H.pN.1
 refine⟨rfl,_,_,_,⟨B,by simp,λi hi=>bE,(ao.of g).mono (λk _ e=>.inl (aQ e).symm),.inl rfl⟩,⟨?_,?_,?_,cG (gZ H.c3),?_,?_,?_,?_,?_,H.own.gb g (.inr b.1),⟨ac,nc,cc,rfl,(vX H.set).gb g (λy e e2=>(b.2 y nc cc (by rw[e])).1 (aQ e2).symm)⟩,⟨C,H.pN.2⟩⟩,.inl rfl⟩
 rw[bE];exact H.c0;rw[bE];exact H.c1;rw[bE];exact H.c2;rw[bE];exact H.c4;rw[bE];exact H.c5;rw[bE];exact H.c6;rw[bE];exact H.c7;rw[bE];exact H.c8
def pW{a:Array Oper}{rest:List Oper}(d:u.guard=none)(T ty:TypeId)(e:u.type=ty)(s x:Operand)
 (ho:u.op=.call {callee:=.builtin .append,args:= #[s,x],argTypes:= #[T,T]}) (v b c:Value) (hs:F.eval s=v) (f:F.eval x=b)
 (g:(Builtin.append_ #[T,T] ty #[v,b]).run prog w=.ok c W) (h:wpList prog a H rest (F.put u.dst c) W):wpList prog a H (u::rest) F w:=
 tC d λ_ i=>by
  unfold Oper.wp execOp;simp only[ho,resolve,invoke,builtin,je,mr,jd,nU,ky,mZ,hs,f,e,g]
  exact i _ _ h
def yS{a:Array Oper}{K:Act->World->Prop}{E:Prop}(d:u.guard=none)(T ty:TypeId)(e:u.type=ty)(s x:Operand)
 (ho:u.op=.call {callee:=.builtin .append,args:= #[s,x],argTypes:= #[T,T]}) (v b c:Value) (hs:F.eval s=v) (f:F.eval x=b)
 (g:(Builtin.append_ #[T,T] ty #[v,b]).run prog w=.ok c W) (h:K (F.put u.dst c) W):if Region.wanted u (yielded a F.tmps)=true then Oper.wp prog u F w K H else E:=by
 have i:Region.wanted u (yielded a F.tmps)=true:=by simp[Region.wanted,d]
 rw[aD i];unfold Oper.wp execOp;simp only[ho,resolve,invoke,builtin,je,mr,jd,nU,ky,mZ,hs,f,e,g]
 exact h
def iA(w:World)(a:Nat)(v:Value)(l:List Pc):Prop:=(∀p∈l,p.x.ok)/\w.ownsRow a 377 4 v l.length (fV l)
def JW:(prog.info? 377).map (λi=>(i.zero,i.size,i.bytes))=some (some (.agg #[.int .u64 0,.int .u64 0,.bool false,.bool false]),4,24):=by kernel_rfl
def iA.nil(w:World)(a:Nat):iA w a (.slice none 0 0) []:=⟨λp hp=>(by cases hp),rfl,.inl ⟨rfl,rfl⟩⟩
def iA.lt{l:List Pc}(h:iA w n x l):∀k,x.ownBlock=some k->n<=k/\k<w.heap.size:=h.2.lt
def iA.av{l:List Pc}(h:iA w n x l)(C:ao w W S)(c:∀k,x.ownBlock=some k->¬S k):iA W n x l:=by
 obtain⟨h0,d,a⟩:=h;refine⟨h0,d,?_⟩
 obtain a|⟨g,cap,cur,e1,e2,b,e⟩:=a
 exact .inl a;exact .inr ⟨g,cap,cur,e1,e2,(C.block g (aZ.1 b).1 (c g (by rw[e1];rfl))).trans b,e⟩
def iA.an{l:List Pc}(h:iA w n x l)(g:w.grownBy W none):iA W n x l:=h.av (ao.of g) (λk _ e=>by cases e)
def iA.Cs{l:List Pc}(h:iA w n x l):∃a cap,x=.slice a l.length cap/\kC w a l.length cap l/\∀y,a=some y->x.ownBlock=some y.block:=by
 obtain⟨h0,r,⟨e,d⟩|⟨g,cap,f,e1,e2,i,k,m,s,p⟩⟩:=h;exact⟨none,0,by rw[d];exact e,⟨h0,rfl,by omega,by simp[maxLen],.inl rfl⟩,λy b=>by cases b⟩
 refine⟨some ⟨g,0,none⟩,cap,e1,⟨h0,rfl,k,m,.inr ⟨g,0,rfl,λj u c=>?_⟩⟩,λy b=>by cases b;rw[e1];rfl⟩
 rw[dY,ba i];have q:j<l.length*4:=by rw[<-HZ];exact(kQ.1 c).1
 have:f.toList[j]?=(fV l)[j]? :=by rw[<-p,jI,aD q]
 rw[qq]at this;rw[this];exact c
def JX(l:List Pc):∀u∈fV l,u.oneCell'=true:=by
 intro u a;unfold fV at a;obtain⟨p,-,hp⟩:=vu.1 a;simp[ru]at hp;obtain rfl|rfl|rfl|rfl:=hp<;>rfl
def JY(ty:TypeId)(d:Nat)(v:Value)(l:List Pc)(k:iA w d v l)(b c:Nat)(x:Pc)(r:x.x.ok)(h0:w.rangeAt b 0 (ru x))(E:l.length<=100000000)(s:d<=w.heap.size):
 ∃e f h a,(Builtin.append_ #[323,323] ty #[v,.slice (some ⟨b,0,none⟩) 1 c]).run prog w=.ok (.slice e f h) a/\iA a d (.slice e f h) (l++[x])/\w.grownBy a v.ownBlock/\((Value.slice e f h).ownBlock=v.ownBlock\/(Value.slice e f h).ownBlock=some w.heap.size):=by
 obtain⟨t,hi,y,z,A⟩:=lD JW;obtain⟨B,a,m,C,n,_,q⟩:=run_append_own_at (P:=prog) w d 323 ty 377 t _ 4 24 underlying323 hi y z A rfl (by decide) v l.length (fV l) k.2 ⟨b,0,none⟩ 1 c (fV [x]) (by simp[fV,ru]) (by
  intro j u D;rw[Addr.add_mid];exact h0 j u (by simpa [fV]using D)) (JX _) (by simp[maxLen];omega) (by omega) s
 have i:iA a d B (l++[x]):=⟨λp hp=>by
  obtain hp|hp:=bQ.1 hp
  exact k.1 p hp
  ·rw[cL.1 hp];exact r,by rw[bH,show fV (l++[x])=fV l++fV [x] by simp[fV]];exact C⟩
 obtain⟨-,-,⟨rfl,e2⟩|⟨g,cap,F,rfl,_⟩⟩:=id i;exact⟨_,_,_,a,m,i,n,q⟩
 exact⟨_,_,_,a,m,i,n,q⟩
abbrev El:=Nat×List Int
def kh(e:El):Value:=.slice (some ⟨e.1,0,none⟩) e.2.length e.2.length
def eX(w:World)(a:Nat)(v:Value)(l:List El):Prop:=w.ownsRow a 112 1 v l.length (l.map kh)
structure ig(w:World)(N:Nat)(l:List El):Prop where
 at_:∀e∈l,N<=e.1/\(∀x∈e.2,W8 x)/\w.heap[e.1]?=some (.cells (bv e.2).toArray 5 (0,0))
 sep:l.Pairwise (λa b=>a.1≠b.1)
def ig.nil(w:World)(N:Nat):ig w N []:=⟨λe a=>(by cases a),.nil⟩
def ig.av{l:List El}(h:ig w n l)(C:ao w W S)(b:∀e∈l,¬S e.1):ig W n l:=
 ⟨λe a=>⟨(h.at_ e a).1,(h.at_ e a).2.1,(C.block e.1 (aZ.1 (h.at_ e a).2.2).1 (b e a)).trans (h.at_ e a).2.2⟩,h.sep⟩
def ig.an{l:List El}(h:ig w n l)(g:w.grownBy W none):ig W n l:=h.av (ao.of g) (λ_ _ e=>by cases e)
def ig.lt{l:List El}(h:ig w n l){e:El}(a:e∈l):e.1<w.heap.size:=(aZ.1 (h.at_ e a).2.2).1
def ig.app{l m:List El}(h:ig w n l)(k:ig w n m)(hd:∀a∈l,∀b∈m,a.1≠b.1):ig w n (l++m):=
 ⟨λe c=>(bQ.1 c).elim (h.at_ e) (k.at_ e),List.pairwise_append.2 ⟨h.sep,k.sep,hd⟩⟩
def Ct:(prog.info? 112).map (λi=>(i.zero,i.size,i.bytes))=some (some (.slice none 0 0),1,24):=by kernel_rfl
def eX.nil(w:World)(a:Nat):eX w a (.slice none 0 0) []:=⟨rfl,.inl ⟨rfl,rfl⟩⟩
def eX.lt{l:List El}(h:eX w n x l):∀k,x.ownBlock=some k->n<=k/\k<w.heap.size:=World.ownsRow.lt h
def eX.av{l:List El}(h:eX w n x l)(C:ao w W S)(c:∀k,x.ownBlock=some k->¬S k):eX W n x l:=by
 obtain⟨d,a⟩:=h;refine⟨d,?_⟩
 obtain a|⟨g,cap,cur,e1,e2,b,e⟩:=a
 exact .inl a;exact .inr ⟨g,cap,cur,e1,e2,(C.block g (aZ.1 b).1 (c g (by rw[e1];rfl))).trans b,e⟩
def eX.an{l:List El}(h:eX w n x l)(g:w.grownBy W none):eX W n x l:=h.av (ao.of g) (λk _ e=>by cases e)
def eX.low{b2:Nat}{l:List El}(h:eX w n x l)(d:b2<=n):eX w b2 x l:=by
 obtain⟨b,a⟩:=h;refine⟨b,?_⟩
 obtain a|⟨g,cap,cur,e1,e2,c⟩:=a
 exact .inl a;exact .inr ⟨g,cap,cur,e1,by omega,c⟩
def eX.gK{l:List El}(h:eX w n x l):∃a cap,x=.slice a l.length cap/\l.length<=cap/\cap<=maxLen/\(a=none->l=[]/\cap=0)/\(∀y,a=some y->x.ownBlock=some y.block/\y=⟨y.block,0,none⟩/\w.rangeAt y.block 0 (l.map kh)):=by
 obtain⟨s,⟨d,h0⟩|⟨g,f,i,e1,e2,k,m,p,t,q⟩⟩:=h;exact⟨none,0,by rw[h0];exact d,by omega,by simp[maxLen],λ_=>⟨nM h0,rfl⟩,λy b=>by cases b⟩
 refine⟨_,f,e1,m,p,λe=>(by cases e),λy b=>?_⟩
 cases b;refine⟨by rw[e1];rfl,rfl,λj u c=>?_⟩
 rw[dY,ba k];have r:j<l.length*1:=by have:=(kQ.1 c).1;simpa using this
 have:i.toList[j]?=(l.map kh)[j]? :=by rw[<-q,jI,aD r]
 rw[qq]at this;rw[this];exact c
def yT(ty:TypeId)(b:Nat)(v:Value)(l:List El)(q:eX w b v l)(y:Addr)(c:Nat)(m:List El)(h0:∀j u,(m.map kh)[j]?=some u->w.cell? (y.add j)=some u)(D:l.length+m.length<=100000000)(r:b<=w.heap.size):
 ∃d f h a,(Builtin.append_ #[206,206] ty #[v,.slice (some y) m.length c]).run prog w=.ok (.slice d f h) a/\eX a b (.slice d f h) (l++m)/\w.grownBy a v.ownBlock/\((Value.slice d f h).ownBlock=v.ownBlock\/(Value.slice d f h).ownBlock=some w.heap.size):=by
 obtain⟨s,hi,t,x,z⟩:=lD Ct;obtain⟨A,a,k,B,n,_,p⟩:=run_append_own_at (P:=prog) w b 206 ty 112 s _ 1 24 underlying206 hi t x z rfl (by decide) v l.length (l.map kh) q y m.length c (m.map kh) (by simp) h0 (λu C=>by
  obtain⟨e,-,rfl⟩:=fg.1 C;rfl) (by simp[maxLen];omega) (by omega) r
 have i:eX a b A (l++m):=by
  unfold eX;rw[bH,mY];exact B
 obtain⟨-,⟨rfl,e2⟩|⟨g,cap,E,rfl,_⟩⟩:=id i;exact⟨_,_,_,a,k,i,n,p⟩
 exact⟨_,_,_,a,k,i,n,p⟩
def JZ(ty:TypeId)(b:Nat)(v:Value)(l:List El)(c:eX w b v l)(n:Nat)(x:Value)(m:List El)(p:eX w n x m)(q:l.length+m.length<=100000000)(r:b<=w.heap.size):
 ∃d f h k,(Builtin.append_ #[206,206] ty #[v,x]).run prog w=.ok (.slice d f h) k/\eX k b (.slice d f h) (l++m)/\w.grownBy k v.ownBlock/\((Value.slice d f h).ownBlock=v.ownBlock\/(Value.slice d f h).ownBlock=some w.heap.size):=by
 obtain⟨a,cap,rfl,D,E,s,t⟩:=p.gK;cases a with
 |some y=>
  obtain⟨-,e,i⟩:=t y rfl;refine yT ty b v l c y cap m (λj u z=>?_) q r;rw[e,Addr.add_mid];exact i j u z
 |none=>
  obtain⟨A,B⟩:=s rfl;subst A B;obtain⟨C,hi,F,G,H⟩:=lD Ct;have i:=run_append_owned_none (P:=prog) (w:=w) b 206 ty 112 C 1 underlying206 hi v _ _ c;rw[oL];obtain⟨-,⟨rfl,e2⟩|⟨g,cap,I,rfl,_⟩⟩:=id c;exact⟨_,_,_,w,i,c,aB _ _,.inl rfl⟩
  exact⟨_,_,_,w,i,c,aB _ _,.inl rfl⟩
def J0(c:w.heap[b]?=some (.cells (bO G x) T (0,0)))(d:dA w G x)(f:1<=n)(g:n<=maxLen):qI w (some ⟨b,0,none⟩) 1 n [G]:=by
 refine⟨rfl,f,g,.inr ⟨b,0,rfl,λi hi=>?_⟩⟩
 have:i=0:=by simp at hi;omega
 subst this;refine⟨x,d,λj u a=>?_⟩
 have e:mC [G] 0=G:=rfl;rw[e]at a;rw[nV,dY,ba c];have:bO G x=(j8 G x).toArray:=rfl;rw[this];simpa using a
def yU(w:World)(f:Fr)(d:Value)(v:dA w f d)(hs:cT f)(x:fT [f]<=30000000):
 Calls prog 206 #[.agg (bO f d)] w λe j=>(∃a n c,e=.returned (.slice a n c)/\bn j w.heap.size (.slice a n c) (bp [f]))/\w.grownBy j none:=by
 have y:=J (λW a n cap(g:w.grownBy W none)(h:qI W a n cap [f])=>Jn W a n cap [f] h x);have F:uc [f]:=⟨by simp,λi hi=>by
  have:i=0:=by simp at hi;omega
  subst this;exact hs⟩
 have z:=J (λ(W:World)(b:Nat)(g:w.grownBy W none)(h:W.heap[b]?=some (.cells (bO f d) 158 (0,0)))=>J0 (n:=1) h (v.an g) (by omega) (by simp[maxLen]));obtain⟨R,l⟩:∃R:Ending->World->Prop,R=λe j=>(∃a n c,e=.returned (.slice a n c)/\bn j w.heap.size (.slice a n c) (bp [f]))/\w.grownBy j none:=⟨_,rfl⟩
 rw[<-l];replace l:=J l;obtain⟨k,m⟩:=exq (w.alloc (.cells (bO f d) 158));have s:w.grownBy k none:=by rw[m];exact aH _ _ _
 have t:k.heap[w.heap.size]?=some (.cells (bO f d) 158 (0,0)):=by rw[m];exact aO _ _
 obtain⟨p,q⟩:=exq (k.alloc (.cells (bO f d) 158));have u:k.grownBy p none:=by rw[q];exact aH _ _ _
 have r:p.heap[k.heap.size]?=some (.cells (bO f d) 158 (0,0)):=by rw[q];exact aO _ _
 have G:=J (Z y p _ _ _ (aq s u) (Z z p _ (aq s u) r));have A:=aq s u;replace r:=J r;clear y z v hs x;obtain⟨kind,stream,offset,code,fin,data,ranges⟩:=f;unfold bO at *;simp only at *;have H:=cM t;obtain⟨N,O,P,Q,S,T,U⟩:=H;replace t:=J t;go_enter func206,ntmps206;go_upto_region 1 with fail;rw[<-m];clear m;go_wp2_with fail;rw[<-q];apply(Z G).mono;rintro e I⟨⟨-,B,C,D,rfl,E⟩|⟨K,-⟩,L⟩
 ·have M:Hid (R (.returned (.slice B C D)) I):=J (by
   rw[Z l];exact⟨⟨B,C,D,rfl,E.Cc A.size⟩,aq A L⟩)
  clear q r E;go_wp2_with fail;exact Z M
 exact absurd F K
def Cu(w:World)(sb:Nat)(aj:Int)(c0:w.cell? ⟨sb,0,none⟩=some (.int .i64 aj))(b:16<=aj/\aj<=1000000):Calls prog 203 #[.pointer (some ⟨sb,0,none⟩)] w λe a=>e=.returned (.int .i64 (aj-16))/\w.grownBy a none:=by
 have c:IntKind.i64.wrap (aj-16)=aj-16:=wI_;go_enter func203,ntmps203;go_wp2;go_ret;exact⟨rfl,aB _ _⟩
def jC{l:List Value}(h:W.rangeAt n o l/\w.grownBy W none)(g:W.grownBy V none):V.rangeAt n o l/\w.grownBy V none:=⟨λj v a=>gC_ g (h.1 j v a),aq h.2 g⟩
def zj(w:World)(sb:Nat)(key:List Int)(f:Bool)(h:dD key)(i:w.rangeAt sb 2 (bv key))(iy:w.cell? ⟨sb,18,none⟩=some (.bool f))(n:Int)(r:aS n)(a:Option Addr)(m cap:Nat)(l:List Int)(j:bI w a m cap l)(hl:l.length<=50000000:=by omega):
 Calls prog 204 #[.pointer (some ⟨sb,0,none⟩),.int .u64 n,.slice a m cap] w λe b=>
  ∃g,e=.returned (.slice (some ⟨g,0,none⟩) (l.length+16) (l.length+16))/\w.heap.size<=g/\b.heap[g]?=some (.cells (bv (cK key (aT f) n l)).toArray 5 (0,0))/\w.grownBy b none:=by
 obtain⟨R,c⟩:∃R:Ending->World->Prop,R=λe b=>∃g,e=.returned (.slice (some ⟨g,0,none⟩) (l.length+16) (l.length+16))/\w.heap.size<=g/\b.heap[g]?=some (.cells (bv (cK key (aT f) n l)).toArray 5 (0,0))/\w.grownBy b none:=⟨_,rfl⟩
 rw[<-c];replace c:=J c;have s:=J (λW(g:w.grownBy W none)=>KV key f n a m cap l W h r (j.an g) hl);have x:(prog.info? 24).map (·.size)=some (bv key).length:=by rw[fL,h.1];exact m8
 have y:=underlying24;have z:=kc iy;have d:w.rangeAt sb 2 (bv key)/\w.grownBy w none:=⟨i,aB _ _⟩
 clear iy i j;go_enter func204,ntmps204;go_wp2_with fail;go_region_held3 (λb=>b.rangeAt sb 2 (bv key)/\w.grownBy b none)
  (with_reducible first|exact k|exact d|exact jC d (aV (aB _ none)))
  (first|(go_at_call 148;apply(Z s _ (aV (aB _ none))).mono;rintro e t⟨g,rfl,p,q,u⟩;have k:=jC (jC d (aV (aB _ none))) u;have v:Hid (R (.returned (.slice (some ⟨g,0,none⟩) (l.length+16) (l.length+16))) t):=J (by rw[Z c];exact⟨g,rfl,p,q,k.2⟩);clear p q))
 go_wp2_with fail;exact Z v
def DZ(w:World)(n:Int)(b:0<=n/\n<=4611686018427387903):Calls prog 212 #[.int .u64 n] w λe a=>e=.returned (.agg #[.int .u64 n,.int .u64 (n+1)])/\w.grownBy a none:=by
 have c:IntKind.u64.wrap (n+1)=n+1:=by rw[fD];omega
 go_enter func212,ntmps212;go_wp2_with fail;exact cF (v:=.agg #[.int .u64 n,.int .u64 (n+1)]) (by simp[results,results212,go_sem]) rfl ⟨rfl,by repeat(first|exact aB _ _|apply dy|apply aV|apply aY)⟩
def MG(w:World):Calls prog 110 #[] w λe a=>e=.returned (.agg #[.int .u64 0,.int .i64 0,.int .i64 4,.slice none 0 0,.slice none 0 0])/\w.grownBy a none:=by
 go_enter func110,ntmps110;go_wp2_with fail;exact cF (v:=.agg #[.int .u64 0,.int .i64 0,.int .i64 4,.slice none 0 0,.slice none 0 0]) (by simp[results,results110,go_sem]) rfl ⟨rfl,by repeat(first|exact aB _ _|apply dy|apply aV|apply aY)⟩
def iW(l:List Rg)(floor n:Int):Bool:=decide (n<floor)||l.any (λr=>decide (r.lo<=n)&&decide (n<r.hi))
def MH(w:World)(sb no:Nat)(a:Option Addr)(k cap:Nat)(l:List Rg)(floor n:Int)(c0:w.cell? ⟨sb,no,none⟩=some (.slice a k cap))(c1:w.cell? ⟨sb,no+1,none⟩=some (.int .u64 floor))(hs:bw w a k cap l)(v:0<=n/\n<=4611686018427387903):
 Calls prog 160 #[.pointer (some ⟨sb,no,none⟩),.int .u64 n] w λe b=>e=.returned (.bool (iW l floor n))/\w.grownBy b none:=by
 have x:=J (λW=>DZ W n v);have j:=J (λW(g:w.grownBy W none)=>AU a k cap l ⟨n,n+1⟩ W (hs.an g));simp only at j;by_cases c:n<floor
 ·have dl:decide (n<floor)=true:=dO c;have hp:iW l floor n=true:=by simp[iW,c]
  rw[hp];go_enter func160,ntmps160;go_wp2_with fail;go_big_region;go_wp2;go_ret;exact⟨rfl,aV (aB _ _)⟩
 have dl:decide (n<floor)=false:=eQ c;have m:Hid (iW l floor n=true↔(n+1<=n\/∃r∈l,r.lo<=n/\n+1<=r.hi)):=J (by
  simp only[iW,dl,tB,qY,lQ,mX]
  constructor;rintro⟨r,d,f,y⟩;exact .inr ⟨r,d,f,by omega⟩
  ·rintro(h|⟨r,d,f,y⟩);omega
   ·exact⟨r,d,f,by omega⟩)
 obtain⟨C,p⟩:=exq (iW l floor n);rw[<-p]at m⊢;clear p;have u0:=kc c0;have u1:=kc c1;have q:w.grownBy w.drew none:=aV (aB _ _);clear c0 c1;go_enter func160,ntmps160;go_wp2_with fail;go_region_held3 (λb=>w.grownBy b none)
  (with_reducible first|exact s|exact i|exact q)
  (first
    |(go_at_call 212;apply(Z x w.drew).mono;rintro e t⟨rfl,z⟩;have i:w.grownBy t none:=aq q z)
    |(go_at_call 211;apply(Z j t i).mono;rintro e A⟨u,B⟩;have s:w.grownBy A none:=aq i B;obtain rfl:=sq u (Z m);clear u))
 go_wp2;go_ret;exact⟨rfl,s⟩
def MI(w:World):(zeroValue 341).run prog w=.ok (.agg #[.int .u64 0,.int .u64 0]) w:=by kernel_rfl
def MJ(l:List Rg)(h:0<l.length):cE (l.drop 1)=(cE l).drop 2:=by
 cases l with
 |nil=>simp at h
 |cons r l=>simp[cE]
def MK(ty:TypeId)(c g k cap:Nat)(l:List Rg)(ho:dj w c (.slice (some ⟨g,0,none⟩) (k+1) cap) l):
 ∃a,(Builtin.append_ #[227,227] ty #[.slice (some ⟨g,0,none⟩) 0 cap,.slice (some ⟨g,2,none⟩) k (cap-1)]).run prog w=.ok (.slice (some ⟨g,0,none⟩) k cap) a/\dj a c (.slice (some ⟨g,0,none⟩) k cap) (l.drop 1)/\w.grownBy a (some g)/\k+1<=cap/\l.length=k+1:=by
 obtain⟨i,E,⟨h0,-⟩|⟨m,n,f,e1,e2,h,F,p,q,s⟩⟩:=ho;cases h0;have hl:l.length=k+1:=by have:=(js e1).2.1;omega
 obtain⟨t,-,v⟩:=js e1;obtain rfl:g=m:=by cases t;rfl
 obtain rfl:cap=n:=v;obtain⟨x,hi,G,y,H⟩:=lD tP;have z:∀j u,(cE l)[j]?=some u->w.cell? ⟨g,j,none⟩=some u:=λj u b=>by
  have A:j<l.length*2:=by have:=(kQ.1 b).1;rwa[rm]at this
  rw[ba h];have:f.toList[j]?=(cE l)[j]? :=by rw[<-s,jI,aD A]
  rw[qq]at this;rw[this];exact b
 have B:w.ownsRow c 341 2 (.slice (some ⟨g,0,none⟩) 0 cap) 0 []:=⟨by simp,.inr ⟨g,cap,f,rfl,e2,h,by omega,p,q,by simp⟩⟩
 obtain⟨a,d,e,C⟩:=run_append_fits (P:=prog) w c 227 ty 341 x 2 underlying227 hi y g 0 cap [] B ⟨g,2,none⟩ k (cap-1) (cE (l.drop 1)) (by rw[rm,dM];omega) (by
  intro j u b;rw[Addr.add_mid];rw[MJ l (by omega),kR]at b;exact z (2+j) u b) (λu D=>vM _ u D) (by omega)
 rw[dY]at d e;rw[jZ]at e;refine⟨a,d,⟨λr d=>i r (iN d),?_⟩,C,by omega,hl⟩
 rw[dM,hl];exact e
def ML{c:Array Oper}{K:Act->World->Prop}{E:Prop}(d:u.guard=none)(s x:Operand)
 (ho:u.op=.call {callee:=.builtin .append,args:= #[s,x],argTypes:= #[227,227]}) (b g k cap:Nat) (l:List Rg) (hs:F.eval s=.slice (some ⟨g,0,none⟩) 0 cap) (e:F.eval x=.slice (some ⟨g,2,none⟩) k (cap-1)) (f:dj w b (.slice (some ⟨g,0,none⟩) (k+1) cap) l)
 (h:∀a,dj a b (.slice (some ⟨g,0,none⟩) k cap) (l.drop 1)->w.grownBy a (some g)->K (F.put u.dst (.slice (some ⟨g,0,none⟩) k cap)) a):if Region.wanted u (yielded c F.tmps)=true then Oper.wp prog u F w K H else E:=by
 have i:Region.wanted u (yielded c F.tmps)=true:=by simp[Region.wanted,d]
 rw[aD i];obtain⟨a,j,m,n,-⟩:=MK (w:=w) u.type b g k cap l f;unfold Oper.wp execOp;simp only[ho,resolve,invoke,builtin,je,mr,jd,nU,ky,mZ,hs,e,j]
 exact h a m n
def MM(e:dj W n (.slice (some ⟨i,0,none⟩) k j) D)(v:k+1<=j):∃b,(Builtin.clear_ #[227] 0 #[.slice (some ⟨i,k*2,none⟩) 1 (j-k)]).run prog W=.ok (.tuple #[]) b/\dj b n (.slice (some ⟨i,0,none⟩) k j) D/\W.grownBy b (some i):=by
 obtain⟨f,g,⟨h0,-⟩|⟨h,l,a,e1,e2,c,m,p,x,d⟩⟩:=e;cases h0;obtain⟨q,r,s⟩:=js e1;obtain rfl:i=h:=by cases q;rfl
 obtain rfl:j=l:=s;obtain⟨t,y,u⟩:=Br (w:=W) 0 227 341 _ 2 (by omega) underlying227 MI (by rfl) (by simp[Value.cells];rfl) i (k*2) 1 (j-k) a _ c (by omega) (by omega);refine⟨_,u,⟨f,g,.inr ⟨i,j,_,e1,e2,setRow_heap W i _ _ _ _ c,m,p,?_,?_⟩⟩,vD _ _ _⟩
 simp only[tt,bH,ct,dM,qt];omega;rw[<-r]at d⊢;rw[<-d,fC];show(a.toList.take (k*2)++(t++a.toList.drop (k*2+1*2))).take (k*2)=a.toList.take (k*2);rw[uX (by rw[ct,qt];omega),List.take_take,Nat.min_self]
def MN(w:World)(a g k cap:Nat)(l:List Rg)(ho:dj w a (.slice (some ⟨g,0,none⟩) (k+1) cap) l)(q:0<k)(j:cap<=maxLen):
 Calls prog 216 #[.slice (some ⟨g,0,none⟩) (k+1) cap,.int .i64 0,.int .i64 1] w λe d=>e=.returned (.slice (some ⟨g,0,none⟩) k cap)/\dj d a (.slice (some ⟨g,0,none⟩) k cap) (l.drop 1)/\w.grownBy d (some g):=by
 unfold maxLen at j;have m:=J (ho.an (aV (aB w none)));have n:k+1<=cap:=(ho.ni.1).2.2.1;clear ho;have r:¬cap=1:=by omega
 have s:¬cap=k:=by omega
 have t:(1:Int)<=cap:=by omega
 have u:(k:Int)<=cap:=by omega
 have v:(k:Int)+1<=(cap:Int):=by omega
 have x:(1:Int)<=k+1:=by omega
 go_enter func216,ntmps216;go_wp2_with fail;go_region_law ((refine ML (by rfl) _ _ (by rfl) a g k cap l (by rfl) (by rfl) (Z m) ?_;intro y b c;replace b:=J b;replace c:=J c));obtain⟨f,z,h,i⟩:=MM (Z b) n;have p:Hid (dj f a (.slice (some ⟨g,0,none⟩) k cap) (l.drop 1)/\w.grownBy f (some g)):=J ⟨h,aq (aq (aV (aB _ _)) (Z c)) i⟩;clear h i;go_wp2;go_ret;exact⟨rfl,Z p⟩
def fh(l:List Rg)(floor n:Int):List Rg×Int:=
 if 8<(dB l ⟨n,n+1⟩).length then((dB l ⟨n,n+1⟩).drop 1,(au (dB l ⟨n,n+1⟩) 0).hi)else(dB l ⟨n,n+1⟩,floor)
def MO(w:World)(sb no:Nat)(cs:Array Value)(t:TypeId)(a:Option Addr)(k cap:Nat)(l:List Rg)(floor n:Int)(x:w.heap[sb]?=some (.cells cs t (0,0)))(c0:cs[no]?=some (.slice a k cap))(c1:cs[no+1]?=some (.int .u64 floor))(hs:bw w a k cap l)(a3:∀y,a=some y->y.block≠sb)(Y:bl l)(bt:l.length<=8)(a4:¬Sm l n)(hn:0<=n/\n<=4611686018427387903):
 Calls prog 164 #[.pointer (some ⟨sb,no,none⟩),.int .u64 n] w λe b=>e=.returned (.tuple #[])/\∃r s u,b.heap[sb]?=some (.cells ((cs.setIfInBounds no (.slice r s u)).setIfInBounds (no+1) (.int .u64 (fh l floor n).2)) t (0,0))/\dj b w.heap.size (.slice r s u) (fh l floor n).1/\w.grownBy b (some sb):=by
 obtain⟨R,L⟩:=exq (λb:World=>∃r s u,b.heap[sb]?=some (.cells ((cs.setIfInBounds no (.slice r s u)).setIfInBounds (no+1) (.int .u64 (fh l floor n).2)) t (0,0))/\dj b w.heap.size (.slice r s u) (fh l floor n).1/\w.grownBy b (some sb));have al:(λ(e:Ending) b=>e=.returned (.tuple #[])/\∃r s u,b.heap[sb]?=some (.cells ((cs.setIfInBounds no (.slice r s u)).setIfInBounds (no+1) (.int .u64 (fh l floor n).2)) t (0,0))/\dj b w.heap.size (.slice r s u) (fh l floor n).1/\w.grownBy b (some sb))=λe b=>e=.returned (.tuple #[])/\R b:=by rw[L]
 rw[al];clear al;have bx:sb<w.heap.size:=(aZ.1 x).1;have hk:k=l.length:=hs.2.1;have a8:(⟨n,n+1⟩:Rg).ok:=by constructor<;>simp only[aS]<;>omega
 have M:=J (λW=>DZ W n hn);have D:=J (λW(g:w.grownBy W none)=>AR W sb no cs t a k cap l ⟨n,n+1⟩ (bB x g) c0 (hs.an g) a3 Y a8 (by omega));simp only at D;have gr:w.grownBy w.drew none:=aV (aB _ _);have N:=gZ c0;have bz:=gZ c1;go_enter func164,ntmps164;go_upto_region 0 with fail;go_region_held3 (λ_=>True) (trivial)
  (first
    |(go_at_call 212;apply(Z M w.drew).mono;rintro e w5⟨rfl,g5⟩;have E:w.grownBy w5 none:=aq gr g5)
    |(go_at_call 215;apply(Z D w5 E).mono;rintro e v⟨rfl,a6,f,c6,c,F,z,O,P,G⟩;replace F:=J F;replace z:=J z;replace O:=J O;replace P:=J P;replace G:=J G))
 have ax:c=dB l ⟨n,n+1⟩:=vS Y (Z P) (Z G).2;have aC:c≠l:=λe=>a4 ((e▸((Z G).2 n)).2 (.inr (by omega)))
 have H:dj v w.heap.size (.slice a6 f c6) c:=by
  obtain h|h:=Z O
  exact absurd h.2.2.2 aC;obtain⟨Q,I,S⟩:=h;refine⟨Q,I,?_⟩
  obtain S|⟨g,cp,a0,e1,e2,e3⟩:=S
  exact .inl S;exact .inr ⟨g,cp,a0,e1,bD E.size e2,e3⟩
 have p:=(Z F).2 _ _ (bB x E);have g6:w.grownBy v (some sb):=aq (dd E _) (Z F).1;have K:f=c.length:=(Z z).2.1;have bM:=(Z z).2.2.1;have a1:=(Z z).2.2.2.1;have k0:v.cell? ⟨sb,no,none⟩=some (.slice a6 f c6):=by rw[ba p];exact cG N
 have a2:Hid (fh l floor n=if 8<c.length then(c.drop 1,(au c 0).hi)else(c,floor)):=J (by unfold fh;rw[<-ax]);clear ax aC;by_cases h8:8<f
 ·have d8:decide ((8:Int)<f)=true:=dT_;have d:=Z a2;rw[iP_]at d;obtain⟨g,rfl⟩:∃g,a6=some ⟨g,0,none⟩:=by
   obtain⟨-,-,⟨h0,-⟩|⟨g,cp,a0,e1,-⟩⟩:=H;cases h0;omega;cases e1;exact⟨g,rfl⟩
  have b0:w.heap.size<=g:=(H.lt g rfl).1;obtain⟨-,y1⟩:=(Z z).cell 0 (by omega);rw[nV,oM]at y1;obtain⟨fl,T⟩:=exq ((au c 0).hi);rw[<-T]at y1 d;obtain⟨m,rfl⟩:∃m,f=m+1:=⟨f-1,by omega⟩
  obtain⟨A,C⟩:=exq (v.setCell ⟨sb,no+1,none⟩ (.int .u64 fl));have B:A.heap[sb]?=some (.cells ((cs.setIfInBounds no (.slice (some ⟨g,0,none⟩) (m+1) c6)).setIfInBounds (no+1) (.int .u64 fl)) t (0,0)):=by rw[C];exact heap_set p _
  have g7:v.grownBy A (some sb):=by rw[C];exact aK (aB _ _) _ _ (.inr rfl)
  have a9:(Value.slice (some ⟨g,0,none⟩) (m+1) c6).ownBlock≠some sb:=λe=>by have h:g=sb:=aQ e;omega
  have bb:=H.gb g7 (.inr a9);have hD:=J (MN A w.heap.size g m c6 c bb (by omega) a1);have q0:A.cell? ⟨sb,no,none⟩=some (.slice (some ⟨g,0,none⟩) (m+1) c6):=by rw[ba B,aN_];exact cG N
  have k1:v.cell? ⟨sb,no+1,none⟩=some (.int .u64 floor):=by rw[ba p,aN_];exact c1
  have f1:v.frozen? ⟨sb,no+1,none⟩=false:=fZ_ p;have U:Hid (∀q,dj q w.heap.size (.slice (some ⟨g,0,none⟩) m c6) (c.drop 1)->A.grownBy q (some g)->R (q.setCell ⟨sb,no,none⟩ (.slice (some ⟨g,0,none⟩) m c6))/\q.cell? ⟨sb,no,none⟩=some (.slice (some ⟨g,0,none⟩) (m+1) c6)/\q.frozen? ⟨sb,no,none⟩=false):=J (λq Q I=>by
   have bj:sb<A.heap.size:=(aZ.1 B).1;have V:=(I.block sb bj (λe=>by have:=aQ e;omega)).trans B;have gs:=aK (aB q (some sb)) ⟨sb,no,none⟩ (.slice (some ⟨g,0,none⟩) m c6) (.inr rfl);refine⟨?_,by rw[ba V,<-ba B];exact q0,by simp[World.frozen?,V]⟩
   rw[L,d];refine⟨some ⟨g,0,none⟩,m,c6,?_,Q.gb gs (.inr (λe=>by have h:g=sb:=aQ e;omega)),?_⟩
   rw[heap_set V];congr 2;apply Array.ext_getElem?;intro i;by_cases hi:i=no;subst hi;rw[cG (by simp;omega),aN_,cG N];by_cases br:i=no+1;subst br;rw[aN_,cG (by simp;omega),cG (by simp;omega)];rw[aN_,aN_,aN_,aN_,aN_]
   ·exact aq (cJ (aq g6 g7) I (λj e=>.inl (by have:=aQ e;omega))) gs)
  have i0:(0:Int)<((m+1:Nat):Int):=by omega
  unfold maxLen at a1;clear D M;replace⟨p,B,K,T,d,C,x⟩:=iR p B K T d C x;go_upto_region 3 with fail;rw[<-Z C];go_wp2_with fail;apply(Z hD).mono;rintro e q⟨rfl,o8,g8⟩;obtain⟨X,z8,f8⟩:=Z U q o8 g8;replace X:=J X;clear o8 g8;go_wp2_with fail;exact fm (eF rfl _ _ _) rfl ⟨rfl,Z X⟩
 have d8:decide ((8:Int)<f)=false:=dF_;have d:=Z a2;rw[iN_]at d;have U:Hid (R v):=J (by
  rw[L,d];refine⟨a6,f,c6,?_,H,g6⟩
  rw[p];congr 2;exact(tW (by rw[aN_];exact c1)).symm)
 replace⟨K,d,p,x⟩:=eV K d p x;clear D M;go_wp2_with fail;exact fm (eF rfl _ _ _) rfl ⟨rfl,Z U⟩
