import Derived.Test.YtjnmokmchdfchaaGreatDoorZW9
set_option maxRecDepth 1000000
set_option maxHeartbeats 0
set_option linter.all false
namespace Go.Proofs.YtjnmokmchdfchaaGreatDoor
open Go.RowKit Tryz
attribute[local go_sem↓]Go.wp_at_zero Go.wp_at_succ
variable{c:Array Value}{p q:Int}{k n:Nat}{X:Sd}{w:World}{D:aQ}
def bE(e:Int):Value:=if e=0 then .nilIface else .iface 34 (.int .i64 e)
theorem uH:bE 0=.nilIface:=rfl
theorem mW(w:World)(sb:Nat)(aF:Int)(dq:w.cell? ⟨sb,99,none⟩=some (.int .i64 aF)):Calls prog 155 #[.pointer (some ⟨sb,0,none⟩)] w λr a=>r=.returned (.bool (decide (aF≠0)))/\w.grownBy a none:=by
 by_cases h:aF=0
 ·subst h;go_enter func155,ntmps155;go_wp2_with fail;go_ret;exact⟨rfl,av _ _⟩
 have e:(aF !=0)=true:=by simpa using h
 have d:decide (aF≠0)=true:=by simpa using h
 rw[d];clear d;go_enter func155,ntmps155;go_wp2_with fail;go_ret;exact⟨rfl,av _ _⟩
def dW(aF k:Int):Int:=if aF≠0 then 9 else if k<0\/4<=k then 2 else 0
theorem pO(w:World)(sb:Nat)(aF k:Int)(dq:w.cell? ⟨sb,99,none⟩=some (.int .i64 aF)):Calls prog 152 #[.pointer (some ⟨sb,0,none⟩),.int .i64 k] w λr i=>r=.returned (bE (dW aF k))/\w.grownBy i none:=by
 have b:=J (mW w sb aF dq);by_cases h:aF=0
 ·have d:decide (aF≠0)=false:=by simpa using h
  rw[d]at b;by_cases c:k<0
  ·have e1:decide (k<0)=true:=bp c;have e:dW aF k=2:=by unfold dW;simp[h,c]
   rw[e];replace h:=J h;go_enter func152,ntmps152;go_wp2_with fail;refine(Z b).mono ?_;rintro e g⟨rfl,a⟩;go_wp2_with fail;go_ret;exact⟨rfl,a⟩
  have e1:decide (k<0)=false:=bB c;by_cases f:4<=k
  ·have e2:decide (k≥4)=true:=bp f;have e:dW aF k=2:=by unfold dW;simp[h,f]
   rw[e];replace h:=J h;go_enter func152,ntmps152;go_wp2_with fail;refine(Z b).mono ?_;rintro e g⟨rfl,a⟩;go_wp2_with fail;go_ret;exact⟨rfl,a⟩
  have e2:decide (k≥4)=false:=bB f;have e:dW aF k=0:=by unfold dW;simp[h,c,f]
  rw[e];replace h:=J h;go_enter func152,ntmps152;go_wp2_with fail;refine(Z b).mono ?_;rintro e g⟨rfl,a⟩;go_wp2_with fail;go_ret;exact⟨rfl,a⟩
 have d:decide (aF≠0)=true:=by simpa using h
 rw[d]at b;have e:dW aF k=9:=by unfold dW;simp[h]
 rw[e];replace h:=J h;go_enter func152,ntmps152;go_wp2_with fail;refine(Z b).mono ?_;rintro e g⟨rfl,a⟩;go_wp2_with fail;go_ret;exact⟨rfl,a⟩
theorem rq(h:dW p q≠0):∃e:Int,bE (dW p q)=.iface 34 (.int .i64 e):=⟨dW p q,by unfold bE;rw[ay h]⟩
theorem zW(w:World)(sb:Nat)(aF k:Int)(dq:w.cell? ⟨sb,99,none⟩=some (.int .i64 aF))(h:dW aF k≠0):Calls prog 149 #[.pointer (some ⟨sb,0,none⟩),.int .i64 k] w λr c=>r=.returned (.tuple #[.pointer none,bE (dW aF k)])/\w.grownBy c none:=by
 have a:=J (pO w sb aF k dq);obtain⟨x,b⟩:=rq h;rw[b]at a⊢;clear b h;go_enter func149,ntmps149;go_wp2_with fail;refine(Z a).mono ?_;rintro e f⟨rfl,d⟩;go_wp2_with fail;exact cz (v:=.tuple #[.pointer none,.iface 34 (.int .i64 x)]) (by simp[results,results149,go_sem,bE]) rfl ⟨rfl,d⟩
theorem oN(k:Nat):19+k*9=19+9*k:=by omega
theorem sI(k:Nat):55+k*9=55+9*k:=by omega
theorem zX(w:World)(sb:Nat)(k:Nat)(l:k<4)(o:Ot)(dq:w.cell? ⟨sb,99,none⟩=some (.int .i64 0))(T:jA w sb (19+9*k) o):Calls prog 149 #[.pointer (some ⟨sb,0,none⟩),.int .i64 (k:Int)] w λr f=>r=.returned (if o.sE||o.sG then .tuple #[.pointer none,bE 3]else .tuple #[.pointer (some ⟨sb,19+9*k,none⟩),.nilIface])/\w.grownBy f none:=by
 have c:=J (pO w sb 0 k dq);have e:dW 0 (k:Int)=0:=by unfold dW;simp;omega
 rw[e,uH]at c;have a:=J (λW(g:w.grownBy W none)=>EX W sb (19+9*k) o (T.ah g));rw[<-oN]at a⊢;have h:(k:Int)<4:=by omega
 have d1:decide ((k:Int)<4)=true:=bp h;clear e;cases hd:(o.sE||o.sG)
 ·rw[hd]at a;go_enter func149,ntmps149;go_wp2_with fail;refine(Z c).mono ?_;rintro e i⟨rfl,b⟩;go_wp2_with fail;refine(Z a _ b).mono ?_;rintro e j⟨rfl,d⟩;go_wp2_with fail;exact cz (v:=.tuple #[.pointer (some ⟨sb,19+k*9,none⟩),.nilIface]) (by simp[results,results149,go_sem,bE]) rfl ⟨rfl,aj b d⟩
 rw[hd]at a;go_enter func149,ntmps149;go_wp2_with fail;refine(Z c).mono ?_;rintro e i⟨rfl,b⟩;go_wp2_with fail;refine(Z a _ b).mono ?_;rintro e j⟨rfl,d⟩;go_wp2_with fail;exact cz (v:=.tuple #[.pointer none,bE 3]) (by simp[results,results149,go_sem,bE]) rfl ⟨rfl,aj b d⟩
theorem bg.ks(H:bg w n k c D X):w.cell? ⟨k,99,none⟩=some (.int .i64 0):=(aU H.aG _).trans H.dq
theorem zY(w:World)(sb:Nat)(aF k:Int)(b:Value)(dq:w.cell? ⟨sb,99,none⟩=some (.int .i64 aF))(h:dW aF k≠0):Calls prog 126 #[.pointer (some ⟨sb,0,none⟩),.int .i64 k,b] w λr d=>r=.returned (.tuple #[.int .i64 0,bE (dW aF k)])/\w.grownBy d none:=by
 have a:=J (zW w sb aF k dq h);obtain⟨x,c⟩:=rq h;rw[c]at a⊢;clear c h;go_enter func126,ntmps126;go_wp2_with fail;refine(Z a).mono ?_;rintro e g⟨rfl,f⟩;go_wp2_with fail;exact cz (v:=.tuple #[.int .i64 0,.iface 34 (.int .i64 x)]) (by simp[results,results126,go_sem,bE]) rfl ⟨rfl,f⟩
def Ot.wrote(o:Ot)(l:List Int)(ai:Int):Ot:={o with h:={o.h with bytes:=o.h.bytes++l.take (o.iP l.length ai)}}
def Sd.write(s:Sd)(k:Nat)(l:List Int):Int×Int×Sd:=
 if(s.out k).sE||(s.out k).sG then(0,3,s)else((s.out k).iP l.length s.ai,0,{s with out:=aw s.out k ((s.out k).wrote l s.ai)})
theorem Gh(w:World)(i sb:Nat)(cs:Array Value)(v:aQ)(s:Sd)(H:bg w i sb cs v s)(k:Nat)(c:k<4)(d:Option Addr)(nx f:Nat)(l:List Int)(hl:bh w d nx f l)(p:(s.out k).h.nice)(q:((s.out k).h.bytes.length:Int)<=s.ai/\s.ai<=1000000)(t:(s.out k).h.fr+(s.out k).h.bytes.length<=4096):
 Calls prog 126 #[.pointer (some ⟨sb,0,none⟩),.int .i64 (k:Int),.slice d nx f] w λr j=>r=.returned (.tuple #[.int .i64 (s.write k l).1,bE (s.write k l).2.1])/\dD w.heap.size w i sb v (s.write k l).2.2 j:=by
 have m:=H.out k c;have a:=J (zX w sb k c (s.out k) H.ks (m.tail H.aG));have u:=J (λW(g:w.grownBy W none)=>Ge (bf H.aG g) (m.ah g) p (bC H.bl g.size) ((H.ah g).uD k c) d nx f l (hl.ah g) s.ai q t);have x:=J (λW y(g:w.grownBy W none) o h=>dD.pre (N:=w.heap.size) (cP.ah g) (((H.ah g).uF (W:=y) k c o h).mono g.size));have c1:=(aU H.aG _).trans H.c1;have z:=J (λW(g:w.grownBy W none)=>H.to (N:=w.heap.size) g);unfold Sd.write;cases hd:((s.out k).sE||(s.out k).sG)
 ·rw[hd]at a;simp only[gM,gp]at a⊢;replace H:=J H;go_enter func126,ntmps126;go_wp2_with fail;refine(Z a).mono ?_;rintro e A⟨rfl,b⟩;have C:=b.cell c1 (by simp);go_wp2_with fail;refine(Z u _ b).mono ?_;rintro e D⟨rfl,n⟩;have B:=J (Z x _ _ b _ n);clear n;go_wp2_with fail;exact cz (v:=.tuple #[.int .i64 ((s.out k).iP l.length s.ai),.nilIface]) (by simp[results,results126,go_sem,bE]) rfl ⟨rfl,Z B⟩
 rw[hd]at a;simp only[fJ]at a⊢;rw[show bE 3=.iface 34 (.int .i64 3)from rfl]at a;replace H:=J H;go_enter func126,ntmps126;go_wp2_with fail;refine(Z a).mono ?_;rintro e A⟨rfl,b⟩;go_wp2_with fail;exact cz (v:=.tuple #[.int .i64 0,bE 3]) (by simp[results,results126,go_sem,bE]) rfl ⟨rfl,Z z _ b⟩
theorem zZ(w:World)(sb:Nat)(aF k:Int)(dq:w.cell? ⟨sb,99,none⟩=some (.int .i64 aF))(h:dW aF k≠0):Calls prog 127 #[.pointer (some ⟨sb,0,none⟩),.int .i64 k] w λr c=>r=.returned (bE (dW aF k))/\w.grownBy c none:=by
 have a:=J (zW w sb aF k dq h);obtain⟨x,b⟩:=rq h;rw[b]at a⊢;clear b h;go_enter func127,ntmps127;go_wp2_with fail;refine(Z a).mono ?_;rintro e f⟨rfl,d⟩;go_wp2_with fail;go_ret;exact⟨rfl,d⟩
def Sd.finish(s:Sd)(k:Nat):Int×Sd:=
 if(s.out k).sE||(s.out k).sG then(3,s)else(0,{s with out:=aw s.out k {s.out k with sE:=true}})
theorem Gi(w:World)(d sb:Nat)(cs:Array Value)(v:aQ)(s:Sd)(H:bg w d sb cs v s)(k:Nat)(b:k<4):
 Calls prog 127 #[.pointer (some ⟨sb,0,none⟩),.int .i64 (k:Int)] w λr f=>r=.returned (bE (s.finish k).1)/\dD w.heap.size w d sb v (s.finish k).2 f:=by
 have i:=H.out k b;have a:=J (zX w sb k b (s.out k) H.ks (i.tail H.aG));have l:=J (λW(g:w.grownBy W none)=>Gc (bf H.aG g) (i.ah g) ((H.ah g).uD k b));have m:=J (λW n(g:w.grownBy W none) o h=>dD.pre (N:=w.heap.size) (cP.ah g) (((H.ah g).uF (W:=n) k b o h).mono g.size));have p:=J (λW(g:w.grownBy W none)=>H.to (N:=w.heap.size) g);unfold Sd.finish;cases hd:((s.out k).sE||(s.out k).sG)
 ·rw[hd]at a;simp only[gM,gp]at a⊢;replace H:=J H;go_enter func127,ntmps127;go_wp2_with fail;refine(Z a).mono ?_;rintro e q⟨rfl,c⟩;go_wp2_with fail;refine(Z l _ c).mono ?_;rintro e u⟨rfl,j⟩;have t:=J (Z m _ _ c _ j);clear j;go_wp2_with fail;go_ret;exact⟨rfl,Z t⟩
 rw[hd]at a;simp only[fJ]at a⊢;rw[show bE 3=.iface 34 (.int .i64 3)from rfl]at a;replace H:=J H;go_enter func127,ntmps127;go_wp2_with fail;refine(Z a).mono ?_;rintro e q⟨rfl,c⟩;go_wp2_with fail;go_ret;exact⟨rfl,Z p _ c⟩
theorem z9(w:World)(sb:Nat)(aF k:Int)(code:Int)(dq:w.cell? ⟨sb,99,none⟩=some (.int .i64 aF))(h:dW aF k≠0):Calls prog 128 #[.pointer (some ⟨sb,0,none⟩),.int .i64 k,.int .u64 code] w λr c=>r=.returned (bE (dW aF k))/\w.grownBy c none:=by
 have a:=J (pO w sb aF k dq);obtain⟨x,b⟩:=rq h;rw[b]at a⊢;clear b h;go_enter func128,ntmps128;go_wp2_with fail;refine(Z a).mono ?_;rintro e f⟨rfl,d⟩;go_wp2_with fail;go_ret;exact⟨rfl,d⟩
def Ot.giveUp(o:Ot)(code:Int):Ot:={o with sE:=false,sG:=true,code:=code,h:={o.h with bytes:=[]}}
def Sd.giveUp(s:Sd)(k:Nat)(code:Int):Int×Sd:=
 if(s.out k).sG=true\/4611686018427387903<code then(3,s)else(0,{s with out:=aw s.out k ((s.out k).giveUp code)})
theorem Gk(w:World)(l sb:Nat)(cs:Array Value)(v:aQ)(s:Sd)(H:bg w l sb cs v s)(k:Nat)(f:k<4)(code:Int)(x:aR code):
 Calls prog 128 #[.pointer (some ⟨sb,0,none⟩),.int .i64 (k:Int),.int .u64 code] w λr m=>r=.returned (bE (s.giveUp k code).1)/\dD w.heap.size w l sb v (s.giveUp k code).2 m:=by
 have n:=H.out k f;have d:=J (pO w sb 0 (k:Int) H.ks);have e:dW 0 (k:Int)=0:=by unfold dW;simp;omega
 rw[e,uH]at d;clear e;have b:=J (λW(g:w.grownBy W none)=>wF W sb (19+9*k) (s.out k) ((n.tail H.aG).ah g));have p:=J (λW(g:w.grownBy W none)=>Gd (bf H.aG g) (n.ah g) ((H.ah g).uD k f) code x);have y:=J (λW z(g:w.grownBy W none) o h=>dD.pre (N:=w.heap.size) (cP.ah g) (((H.ah g).uF (W:=z) k f o h).mono g.size));have q:=J (λW(g:w.grownBy W none)=>H.to (N:=w.heap.size) g);have A:(k:Int)<4:=by omega
 have d1:decide ((k:Int)<4)=true:=bp A;rw[<-oN]at b p;unfold Sd.giveUp;cases hd:(s.out k).sG
 ·rw[hd]at b;by_cases i:4611686018427387903<code
  ·have d2:decide (code>4611686018427387903)=true:=bp i;rw[aM (.inr i)];replace H:=J H;go_enter func128,ntmps128;go_wp2_with fail;refine(Z d).mono ?_;rintro e t⟨rfl,a⟩;go_wp2_with fail;refine(Z b _ a).mono ?_;rintro e u⟨rfl,c⟩;go_wp2_with fail;go_ret;exact⟨rfl,Z q _ (aj a c)⟩
  have d2:decide (code>4611686018427387903)=false:=bB i;rw[ay (by simp;omega)];replace H:=J H;go_enter func128,ntmps128;go_wp2_with fail;refine(Z d).mono ?_;rintro e t⟨rfl,a⟩;go_wp2_with fail;refine(Z b _ a).mono ?_;rintro e u⟨rfl,c⟩;go_wp2_with fail;refine(Z p _ (aj a c)).mono ?_;rintro e C⟨rfl,j⟩;rw[oN]at j;have B:=J (Z y _ _ (aj a c) _ j);clear j;go_wp2_with fail;go_ret;exact⟨rfl,Z B⟩
 rw[hd]at b;rw[aM (.inl rfl)];replace H:=J H;go_enter func128,ntmps128;go_wp2_with fail;refine(Z d).mono ?_;rintro e t⟨rfl,a⟩;go_wp2_with fail;refine(Z b _ a).mono ?_;rintro e u⟨rfl,c⟩;go_wp2_with fail;go_ret;exact⟨rfl,Z q _ (aj a c)⟩
theorem Aa(w:World)(sb:Nat)(aF k:Int)(dq:w.cell? ⟨sb,99,none⟩=some (.int .i64 aF))(h:dW aF k≠0):Calls prog 134 #[.pointer (some ⟨sb,0,none⟩),.int .i64 k] w λr c=>r=.returned (.tuple #[.int .i64 0,bE (dW aF k)])/\w.grownBy c none:=by
 have a:=J (pO w sb aF k dq);obtain⟨x,b⟩:=rq h;rw[b]at a⊢;clear b h;go_enter func134,ntmps134;go_wp2_with fail;refine(Z a).mono ?_;rintro e f⟨rfl,d⟩;go_wp2_with fail;exact cz (v:=.tuple #[.int .i64 0,.iface 34 (.int .i64 x)]) (by simp[results,results134,go_sem,bE]) rfl ⟨rfl,d⟩
theorem Gl(w:World)(d sb:Nat)(cs:Array Value)(v:aQ)(s:Sd)(H:bg w d sb cs v s)(k:Nat)(f:k<4)(i:0<=(s.out k).h.fr/\(s.out k).h.fr<=4611686018427387903):
 Calls prog 134 #[.pointer (some ⟨sb,0,none⟩),.int .i64 (k:Int)] w λr j=>r=.returned (.tuple #[.int .i64 (s.out k).h.fr,.nilIface])/\w.grownBy j none:=by
 have l:=H.out k f;have a:=J (pO w sb 0 (k:Int) H.ks);have e:dW 0 (k:Int)=0:=by unfold dW;simp;omega
 rw[e,uH]at a;clear e;have b:=J (λW(g:w.grownBy W none)=>EY W sb (19+9*k) (s.out k).h.fr (g.cell ((aU H.aG _).trans l.c0) (by simp)) i);have m:(k:Int)<4:=by omega
 have d1:decide ((k:Int)<4)=true:=bp m;rw[<-oN]at b;replace H:=J H;go_enter func134,ntmps134;go_wp2_with fail;refine(Z a).mono ?_;rintro e p⟨rfl,c⟩;go_wp2_with fail;refine(Z b _ c).mono ?_;rintro e q⟨rfl,n⟩;go_wp2_with fail;exact cz (v:=.tuple #[.int .i64 (s.out k).h.fr,.nilIface]) (by simp[results,results134,go_sem,bE]) rfl ⟨rfl,aj c n⟩
theorem Ab(w:World)(sb:Nat)(aF k bI:Int)(dq:w.cell? ⟨sb,99,none⟩=some (.int .i64 aF))(h:dW aF k≠0):Calls prog 132 #[.pointer (some ⟨sb,0,none⟩),.int .i64 k,.int .i64 bI] w λr c=>r=.returned (.tuple #[.slice none 0 0,.int .i64 0,.int .u64 0,bE (dW aF k)])/\w.grownBy c none:=by
 have a:=J (pO w sb aF k dq);obtain⟨x,b⟩:=rq h;rw[b]at a⊢;clear b h;go_enter func132,ntmps132;go_wp2_with fail;refine(Z a).mono ?_;rintro e f⟨rfl,d⟩;go_wp2_with fail;exact cz (v:=.tuple #[.slice none 0 0,.int .i64 0,.int .u64 0,.iface 34 (.int .i64 x)]) (by simp[results,results132,go_sem,bE]) rfl ⟨rfl,d⟩
theorem Gm(w:World)(f sb:Nat)(cs:Array Value)(v:aQ)(s:Sd)(H:bg w f sb cs v s)(k:Nat)(m:k<4)(bI:Int)(z:(s.aT k).h.nice)(A:0<=dK (s.aT k).h/\dK (s.aT k).h<=(s.aT k).h.bytes.length):
 Calls prog 132 #[.pointer (some ⟨sb,0,none⟩),.int .i64 (k:Int),.int .i64 bI] w λr d=>∃a n c,r=.returned (.tuple #[.slice a n c,.int .i64 ((s.aT k).state bI),.int .u64 (s.aT k).pL,.nilIface])/\aX d w.heap.size (.slice a n c) ((s.aT k).out bI)/\∃b,w.grownBy b none/\(∀j,(Value.slice a n c).ownBlock=some j->j<b.heap.size)/\dD b.heap.size b f sb v {s with aT:=aw s.aT k ((s.aT k).read bI)} d:=by
 obtain⟨R,i⟩:∃R:Ending->World->Prop,R=λr d=>∃a n c,r=.returned (.tuple #[.slice a n c,.int .i64 ((s.aT k).state bI),.int .u64 (s.aT k).pL,.nilIface])/\aX d w.heap.size (.slice a n c) ((s.aT k).out bI)/\∃b,w.grownBy b none/\(∀j,(Value.slice a n c).ownBlock=some j->j<b.heap.size)/\dD b.heap.size b f sb v {s with aT:=aw s.aT k ((s.aT k).read bI)} d:=⟨_,rfl⟩
 rw[<-i];replace i:=J i;have B:=H.aT k m;have t:=J (pO w sb 0 (k:Int) H.ks);have e:dW 0 (k:Int)=0:=by unfold dW;simp;omega
 rw[e,uH]at t;clear e;have u:=J (λW(g:w.grownBy W none)=>Fm W sb (55+9*k) f cs 241 _ _ (s.aT k) (bf H.aG g) (B.ah g) z (bC H.bl g.size) ((H.ah g).wU k m) bI A);have C:=J (λW D(g:w.grownBy W none) o h=>(H.ah g).wV (W:=D) k m o h);have E:(k:Int)<4:=by omega
 have d1:decide ((k:Int)<4)=true:=bp E;rw[<-sI]at u;replace H:=J H;go_enter func132,ntmps132;go_wp2_with fail;refine(Z t).mono ?_;rintro e I⟨rfl,l⟩;go_wp2_with fail;refine(Z u _ l).mono ?_;rintro e F⟨a,n,c,b,rfl,x,p,y,q⟩;rw[sI]at q;have G:Hid (R (.returned (.tuple #[.slice a n c,.int .i64 ((s.aT k).state bI),.int .u64 (s.aT k).pL,.nilIface])) F):=J (by
  rw[Z i];exact⟨a,n,c,rfl,x.low l.size,b,aj l p,y,Z C _ _ (aj l p) _ q⟩)
 clear q x p y;go_wp2_with fail;exact cz (v:=.tuple #[.slice a n c,.int .i64 ((s.aT k).state bI),.int .u64 (s.aT k).pL,.nilIface]) (by simp[results,results132,go_sem,bE]) rfl (Z G)
