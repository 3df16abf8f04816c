import Derived.Test.YtjnmokmchdfchaaGreatDoorZSl
set_option maxRecDepth 1000000
set_option maxHeartbeats 0
set_option linter.all false
namespace Go.Proofs.YtjnmokmchdfchaaGreatDoor
open Go.RowKit Tryz
open Go.Value renaming int→I,slice→Y,bool→β,pointer→π,agg→ε,string→ς,tuple→τ
open Go.IntKind renaming i64→X,u64→U,u8→Δ
open Go.Ending renaming returned→ξ
open Go.Obj renaming cells→ο
open Or renaming inl→φ,inr→ψ
open Option renaming some→E,none→N
open Bool renaming true→ρ,false→θ
open Go renaming World→D,Value→υ
open Go.World renaming grownBy→G,cell?→κ,frozen?→χ,setCell→ζ
attribute[local go_sem↓]Go.wp_at_zero Go.wp_at_succ
def Th(w:D)(mb:Nat)(l:cz)(s:ah)(B:Nat->Prop)(H:bV w mb l s B)(hs:Bl s)(a:Option Addr)(m c:Nat)(p:List Int)(aa:bD w a m c p):
 Calls prog 43 #[π (E ⟨mb,0,N⟩),Y a m c] w λe S=>e=ξ (τ #[I X (s.jI p).1,I X (s.jI p).2.1])/\bP w.heap.size w mb B (s.jI p).2.2 S:=by
 refine r8 (λ(s':ah) S=>bP w.heap.size w mb B s' S) (s.jI p).2.2 λR hR=>?_
 have hsame:=J (λS(g:G w S N)=>(show R s S by rw[hR];exact H.to g));obtain⟨P,hP⟩:=í (s.jI p);rw[<-hP];have M:=H.mc;have ee:=M.closed;by_cases a0:s.closed≠0
 .have e:P=(9,-1,s):=by rw[hP];unfold ah.jI;rw[aH a0]
  have u:=J (Z hsame w (au _ _));have d1:(s.closed !=0)=ρ:=by simpa using a0
  rw[e];clear e hP hsame aa H M hs hR;go_enter func43,ntmps43;go_wp2_with fail;exact cC (v:=τ #[I X 9,I X (-1)]) (by simp[results,results43,go_sem]) Q ⟨Q,Z u⟩
 have a0:s.closed=0:=by simpa using a0
 rw[a0]at ee;have K:=H.key;have iv:=kc M.me;have gS:X.wrap (1-s.me)=1-s.me:=by rw[uO];obtain e|e:=hs.me<;>rw[e]<;>omega
 obtain⟨ai,ca⟩:=í (1-s.me);have g0:W8 ai:=by rw[ca];unfold W8;obtain e|e:=hs.me<;>rw[e]<;>omega
 have cc:=J (λC W(g:G w W N)=>Gr s.key ai a m c p W K g0 (aa.ag g) C);have cf:=J (λC W(g:G w W N)=>Ri s.key ai a m c p W K g0 (aa.ag g) C);have g2:(prog.info? 24).map (·.size)=E (bv s.key).length:=by rw[gy,K.1];exact mh
 have jf:=underlying24;have ez:=M.key;have a1:w.rangeAt mb 2 (bv s.key)/\G w w N:=⟨ez,au _ _⟩
 rw[<-ca]at gS;have ch:Hid (P=if¬dZ s.key ai p then(4,-1,s)else if s.aX.has (bu p)then(0,-1,s)else s.pO (bu p) (cV s.key ai (bu p) (bO p))):=J (by
  rw[hP];unfold ah.jI;rw[aE (by simpa using a0),<-ca])
 have ji:X.wrap (1-s.me)=ai:=by rw[ca];rw[uO];obtain e|e:=hs.me<;>rw[e]<;>omega
 clear hP gS ca;obtain⟨key,eK⟩:=í s.key;rw[<-eK]at cc cf g2 ez a1 ch K;replace⟨eK,H,hs,hR,a0⟩:=gT eK H hs hR a0;have jj:=J (Fu aa);clear ez M aa;go_enter func43,ntmps43;go_upto_region 3 with fail;go_cut [6,7,8] (λv6 v7 v8 wx=>((dZ key ai p/\∃a' c' W,v6=I U (bu p)/\v7=Y a' (p.length-16) c'/\v8=β ρ/\aS wx w.heap.size (Y a' (p.length-16) c') (cV key ai (bu p) (bO p))/\G w W N/\G W wx N)\/(¬dZ key ai p/\v8=β θ))/\G w wx N);case first=>
  as_aux_lemma=>
   clear hsame;by_cases C:dZ key ai p
   .replace cc:=J (Z cc C);go_region_held3 (λS=>S.rangeAt mb 2 (bv key)/\G w S N)
     (with_reducible first|exact cm|exact a1|exact dT a1 (aK (au _ N)))
     (first|(go_at_call 65;apply(Z cc _ (aK (au _ N))).mono;rintro e w5⟨a',c',rfl,bt,g5⟩;have cm:=dT (dT a1 (aK (au _ N))) g5;have jo:=J bt;clear bt))
    go_wp2;go_meet;exact⟨φ ⟨C,a',c',_,Q,Q,Q,Z jo,aK (au _ N),g5⟩,cm.2⟩
   replace cf:=J (Z cf C);go_region_held3 (λS=>S.rangeAt mb 2 (bv key)/\G w S N)
    (with_reducible first|exact cm|exact a1|exact dT a1 (aK (au _ N)))
    (first|(go_at_call 65;apply(Z cf _ (aK (au _ N))).mono;rintro e w5⟨rfl,g5⟩;have cm:=dT (dT a1 (aK (au _ N))) g5))
   go_wp2;go_meet;exact⟨ψ ⟨C,Q⟩,cm.2⟩
 case rest=>
  clear cc cf a1 iv ee g2 jf ji;obtain⟨eL,g1⟩:=hcut;obtain⟨C,a',c',W,rfl,rfl,rfl,bt,gW,lp⟩|⟨C,rfl⟩:=eL
  rotate_left
  .have u:Hid (P=(4,-1,s)):=J (by rw[Z ch,aH C]);have n:=J (Z hsame _ g1);clear ch hsame g1;go_wp2_with fail;exact cC (v:=τ #[I X 4,I X (-1)]) (by simp[results,results43,go_sem]) Q ⟨by rw[Z u],by rw[Z u];exact Z n⟩
  have H1:=(Z H).ag g1;have eS:=H1.mc.aX;obtain⟨num,cp⟩:=í (bu p);obtain⟨bM,ei⟩:=í (cV key ai (bu p) (bO p));have lv:bM.length<=300:=by rw[ei,nI];unfold bO;rw[dK];have:=C.2.1;omega
  have g3:Hid (P=if s.aX.has num then(0,-1,s)else s.pO num bM):=J (by
   rw[Z ch,aE (by simpa using C),cp,ei])
  have lB:0<=num/\num<=4611686018427387903:=by rw[cp];exact⟨Z jj,C.2.2.2⟩
  rw[<-ei]at bt;rw[<-cp];have ct:=J (P7 wc l.aX l.vg s.aX H1.cq.aX num);clear ch ei;replace⟨cp,C,bt,H1⟩:=fB cp C bt H1;cases a2:s.aX.has num;rotate_left
  .have u:Hid (P=(0,-1,s)):=J (by rw[Z g3,a2];rfl);rw[a2]at ct;replace a2:=J a2;go_wp2_with (go_at_call 77;apply(Z ct).mono;rintro e w5⟨rfl,g5⟩;have n:=J (Z hsame _ (aq g1 g5)));exact cC (v:=τ #[I X 0,I X (-1)]) (by simp[results,results43,go_sem]) Q ⟨by rw[Z u],by rw[Z u];exact Z n⟩
  have ej:Hid (P=s.pO num bM):=J (by rw[Z g3,a2];rfl);rw[a2]at ct;replace a2:=J a2;go_upto_region 9 with(go_at_call 77;apply(Z ct).mono;rintro e w5⟨rfl,g5⟩)
  have g4:=aq g1 g5;obtain⟨ab,cb,eb,e4,-,-⟩:=(Z bt).bs;injection eb with jv g7 j2;subst jv;subst j2;rw[<-g7]at e4;have e5:=J (Gs w5 a' (p.length-16) c' bM (e4.ag g5) O);clear g7;clear e4 eS ct;go_cut [10,11,12] (λj3 g8 g9 wx=>G w5 wx N/\((∃aw a9 x c9,eX bM=(E (aw.map (·.1)),-1)/\j3=Y a9 x c9/\g8=I X 0/\g9=I X (-1)/\fe wx w5.heap.size (Y a9 x c9) aw)\/(∃q:Nat,eX bM=(N,(q:Int))/\g8=I X 5/\g9=I X q)));case first=>
   as_aux_lemma=>
    go_wp2_with (go_at_call 63;apply(Z e5).mono;rintro e w6⟨g6,(⟨aw,a9,x,c9,hd,rfl,hO⟩|⟨q,hd,rfl⟩)⟩)
    .go_meet;exact⟨g6,φ ⟨aw,a9,x,c9,hd,Q,Q,Q,hO⟩⟩
    go_meet;exact⟨g6,ψ ⟨q,hd,Q,Q⟩⟩
  case rest=>
   rename D=>F
   obtain⟨g6,eL⟩:=hcut;have b4:=aq g4 g6;have HD:=(Z H).ag b4;obtain⟨aw,a9,x,c9,hd,rfl,rfl,rfl,hO⟩|⟨q,hd,rfl,rfl⟩:=eL
   rotate_left
   .have u:Hid (P=(5,(q:Int),{s with closed:=5,code:=5})):=J (by rw[Z ej];unfold ah.pO;rw[hd]);have M:=HD.mc;have f19:=M.fz 19;have ee:=M.closed;obtain⟨H2,C2⟩:=HD.qM 19 (I X 5) {s with closed:=5} (A5 HD.key 5) rfl rfl rfl rfl rfl rfl rfl;have M2:=H2.mc;have f20:=M2.fz 20;have j4:=M2.code;obtain⟨H3,C3⟩:=H2.qM 20 (I U 5) {s with closed:=5,code:=5} (A7 H2.key 5) rfl rfl rfl rfl rfl rfl rfl;have n:Hid (R {s with closed:=5,code:=5} ((ζ F ⟨mb,19,N⟩ (I X 5)).setCell ⟨mb,20,N⟩ (I U 5))):=J (by
     rw[Z hR];exact⟨l,B,H3,λk K=>φ K,((aj.of b4).trans (C2.trans C3)).mono (λk _ e=>by obtain e|e|e:=e;(·cases e);(·exact e);(·exact e))⟩)
    clear H2 H3 C2 C3 M M2 HD ej hsame e5 hd;go_wp2_with fail;exact cC (v:=τ #[I X 5,I X q]) (by simp[results,results43,go_sem]) Q ⟨by rw[Z u],by rw[Z u];exact Z n⟩
   obtain⟨fs,cv⟩:=í (aw.map (·.1));have b5:=hO.AG;obtain⟨b6,l2,j5⟩:=b5.fU;unfold maxLen at j5;rw[<-cv]at hd;have e6:=J (yz hd);have e7:Hid (P=if fs.any s.fk then(6,-1,s)else((ah.fP num fs (s.mark num)).1,-1,(ah.fP num fs (s.mark num)).2)):=J (by rw[Z ej];unfold ah.pO;rw[hd]);have bw:Hid (fs.length=x):=J (by rw[cv,fF,b6]);have e8:Hid (∀j,j<x->jn fs j=(cS aw j).1):=J (λj hj=>by
    have h1:=sF (l:=fs) (j:=j) (by rw[Z bw];exact hj);rw[cv,kU,sy O]at h1;rw[cv];exact(aR h1).symm)
   replace b6:=J b6;have cw:=J (λwr(h:iH w5.heap.size F.heap.size wr (Y a9 x c9) aw) j(hj:j<x)=>h.get (j:=j) (by have:=Z b6;omega) (Z e8 j hj));replace b5:=J b5;clear e5 ej hd cv hO;have cx:=J (λW(g:G F W N)=>HD.ag g);have l3:=(Z hs).av;replace HD:=J HD;go_upto_region 15 with fail;go_loopg [13] (x+1) (λg j6 wr=>∃j:Nat,j<=x/\j6=I X j/\g=x+1-j/\G F wr N/\∀i,i<j->s.fk (jn fs i)=θ);case atStart=>exact⟨0,O,Q,O,au _ _,λi hi=>O⟩
   case round=>
    obtain⟨j,hj,rfl,rfl,gj,al⟩:=hrel;by_cases bx:j<x
    .obtain⟨gf,ra,rc,e9,⟨y0,y1,y2,y3,y4,y5,y6⟩,-,-,ao⟩:=Z cw wr ((Z b5).ag gj) j bx;subst e9;obtain⟨f,n⟩:=í (jn fs j);have b7:=Z e6 f (by rw[n];exact yN (by rw[Z bw];exact bx));rw[<-n]at y0 y1 y2 y3 y4 y5 y6 ao;obtain⟨W1,bz⟩:=í (wr.alloc (ο #[I X f.kind,I X f.stream,I U f.offset,I U f.code,β f.fin,ς f.data,Y ra f.ranges.length rc] 158));have j7:G wr W1 N:=by rw[bz];exact aC _ _ _
     have ha:W1.heap[wr.heap.size]?=E (ο #[I X f.kind,I X f.stream,I U f.offset,I U f.code,β f.fin,ς f.data,Y ra f.ranges.length rc] 158 (0,0)):=by rw[bz];exact aM _ _
     obtain⟨z0,z1,z2,z3,z4,z5,z6⟩:=bQ ha;have fa:=aq gj j7;have j0:(0:Int)<=j:=O;have j1:(j:Int)<x:=O;clear ha;replace n:=J n;by_cases k5:f.kind=5
     .obtain⟨s1,s2⟩:=b7.st;have j8:=b7.en k5;have l4:=ao.2.2.1.1;obtain⟨k,fb⟩:∃k:Nat,f.stream=(k:Int):=⟨f.stream.toNat,O⟩
      have bA:k<4:=O;have ek:f.stream.toNat=k:=O;have H1:=Z cx W1 fa;have kb:=H1.mc.ins;have c1:=H1.mc.c1;have r0:=H1.ins.row k bA;have kd:=H1.ins.ci;unfold maxLen at kd;obtain⟨-,-,-,-,-,x5,-,x7,x8,-⟩:=(H1.yK bA).ic;have kf:=((Z hs).so.ins k bA).rd;have kk:=((Z hs).so.ins k bA).hi;obtain⟨i,fc⟩:=í (s.ins k);have T:Hid (s.fk f=(decide (i.state≠2)&&(!i.given&&decide (i.read+s.av<bm f)))):=J (by unfold ah.fk;rw[bU k5,ek,<-fc];rfl);rw[<-fc]at x5 x7 x8 kf kk;obtain⟨cy,u⟩:=í (bm f);have kl:cy=f.offset+f.data.size:=u;rw[<-u]at T j8;obtain⟨t,ht⟩:=í (s.fk f);rw[<-ht]at T;have w1:U.wrap (f.data.size:Int)=(f.data.size:Int):=by rw[cZ];omega
      have w2:U.wrap (f.offset+(f.data.size:Int))=cy:=by rw[cZ];omega
      have w3:U.wrap s.av=s.av:=by rw[cZ];omega
      have w4:U.wrap (i.read+s.av)=i.read+s.av:=by rw[cZ];omega
      have i0:(0:Int)<=k:=O;have i1:(k:Int)<4:=O;obtain⟨wb,a3⟩:=í W1.drew.drew;have kv:G W1 wb N:=by rw[a3];exact aq (aK (au W1 N)) (aK (au _ N))
      have hc:=aq fa kv;rw[k5]at y0 z0 bz;rw[fb]at y1 z1 bz;replace ht:=J ht;clear H1 cw cx ao fc u kl s1 s2 ek k5;replace⟨fb,b7,al⟩:=cA fb b7 al;go_upto_region 19 with fail;rw[<-bz];clear bz y0 y1 y2 y3 y4 y5 y6;go_region;go_upto_region 20 with fail;go_cut [118]from 65 to 118 (λv wx=>v=β t/\wx=wb);case first=>
       as_aux_lemma=>
        clear hsame;replace a3:=J a3;by_cases L:i.state=2
        .have z:Hid (t=θ):=J (by rw[Z T,L];rfl);have d1:(i.state !=2)=θ:=by simpa using L
         replace L:=J L;go_region;go_wp2;go_meet;exact⟨by rw[Z z],(Z a3).symm⟩
        have d1:(i.state !=2)=ρ:=by simpa using L
        obtain q2|q2:=(oX i.given).symm
        .rw[q2]at x5 T;by_cases q3:i.read+s.av<cy
         .have d3:decide (cy>i.read+s.av)=ρ:=bU q3;have z:Hid (t=ρ):=J (by rw[Z T,bU q3,bU L];rfl);replace⟨L,q2⟩:=aT L q2;clear T;go_region;go_wp2;go_meet;exact⟨by rw[Z z],(Z a3).symm⟩
         have d3:decide (cy>i.read+s.av)=θ:=bT q3;have z:Hid (t=θ):=J (by rw[Z T,bT q3];simp);replace⟨L,q2⟩:=aT L q2;clear T;go_region;go_wp2;go_meet;exact⟨by rw[Z z],(Z a3).symm⟩
        rw[q2]at x5 T;have z:Hid (t=θ):=J (by rw[Z T];simp);replace⟨L,q2⟩:=aT L q2;clear T;go_region;go_wp2;go_meet;exact⟨by rw[Z z],(Z a3).symm⟩
      case rest=>
       obtain⟨rfl,db⟩:=hcut;rw[db];clear a3 db T x5 x7 x8 kb c1 r0 z0 z1 z2 z3 z4 z5 z6;cases t with
       |true=>
        have hf:Hid (P=(6,-1,s)):=J (by
         rw[Z e7,aH (Rk (j:=j) (by rw[Z bw];exact bx) (by rw[<-Z n];exact(Z ht).symm))])
        have b8:=J (Z hsame _ (aq b4 hc));go_wp2_with fail;exact cC (v:=τ #[I X 6,I X (-1)]) (by simp[results,results43,go_sem]) Q ⟨by rw[Z hf],by rw[Z hf];exact Z b8⟩
       |false=>
        have ff:Hid (∀i,i<j+1->s.fk (jn fs i)=θ):=J (λi hi=>by
         by_cases fi:i<j;exact Z al i fi
         .obtain rfl:i=j:=O;rw[<-Z n];exact(Z ht).symm)
        go_wp2;go_roundg (x+1-(j+1));case measure=>omega
        case rel=>exact⟨j+1,O,by go_num,Q,hc,Z ff⟩
     have e1:(f.kind==5)=θ:=by simpa using k5
     have e2:(f.kind !=5)=ρ:=by simpa using k5
     have ff:Hid (∀i,i<j+1->s.fk (jn fs i)=θ):=J (λi hi=>by
      by_cases fi:i<j;exact al i fi
      .obtain rfl:i=j:=O;rw[<-Z n];unfold ah.fk;rw[bT k5];rfl)
     replace⟨al,b7⟩:=aT al b7;clear cw cx hsame ao;go_wp2;go_roundg (x+1-(j+1));case measure=>omega
     case rel=>exact⟨j+1,O,by go_num,Q,by rw[<-bz];exact fa,Z ff⟩
    obtain rfl:j=x:=O;have hh:=Rj (λi hi=>al i (by rw[Z bw]at hi;exact hi));have hk:Hid (P=((ah.fP num fs (s.mark num)).1,-1,(ah.fP num fs (s.mark num)).2)):=J (by rw[Z e7,hh];rfl);have a4:Hid (∀f∈fs,pM s f):=J (λf kF=>by
     obtain⟨i,hi,rfl⟩:=ko.1 kF;have hn:i<j:=by rw[Z bw]at hi;exact hi
     have ef:fs[i]=jn fs i:=by have e:=sF hi;rw[dB hi]at e;exact aR e
     rw[ef];have de:=Z e6 (jn fs i) (yN hi);obtain⟨-,-,-,-,-,-,-,ao⟩:=Z cw _ ((Z b5).ag gj) i hn;refine⟨λh3 e=>?_,λ_=>de.st,⟨ao.2.2.1.1,de.1.1⟩,de.en,λh5 hg=>?_⟩
     have:=(de.2.1.1 h3).1;rw[e]at this;simp at this
     .have aa:=al i hn;have bA:(jn fs i).stream.toNat<4:=by have:=de.st;omega
      have k0:(s.ins (jn fs i).stream.toNat).state≠2:=λe=>by have:=(Z hs).Rl _ bA e;rw[hg]at this;cases this
      unfold ah.fk at aa;rw[bU h5,hg,bU k0]at aa;simp only[Bool.true_and,Bool.not_false,uI]at aa;have:=(Z hs).rd _ bA;omega)
    have dg:dQ num:=by unfold dQ;omega
    have Hr:=Z cx _ gj;have eS:=Hr.mc.aX;have ho:=J (AZ wr l.aX l.vg s.aX Hr.cq.aX (Z hs).aX num num dg dg);clear hh e7 al cw cx e6 hsame;replace Hr:=J Hr;go_upto_region 23 with(go_at_call 78;apply(Z ho).mono;rintro e w7⟨rfl,dk⟩;have dn:=J dk;clear dk)
    obtain⟨l7,B7,H7,fo,C7⟩:=(Z Hr).QV (Z dn);have k1:=H7.mc.aU;have hr:=J (AZ w7 l7.aU l7.ve s.aU H7.cq.aU (Z hs).aU num num dg dg);clear dn ho eS;go_upto_region 25 with(go_at_call 78;apply(Z hr).mono;rintro e w8⟨rfl,dk⟩;have dn:=J dk;clear dk)
    obtain⟨l8,B8,H8,hv,C8⟩:=H7.QW (Z dn);have l5:=b4.size;have l6:=gj.size;have hx:∀k,B8 k->B k\/F.heap.size<=k:=λk K=>by
     obtain e|e:=hv k K
     obtain e|e:=fo k e
     exact φ e;exact ψ O;exact ψ (by have:=C7.size;omega)
    have CB:=(((aj.of gj).trans C7).trans C8).mono (λk K e=>by
     obtain(e|e)|e:=e
     cases e;exact e
     .exact(fo k e).elim id (λe=>O))
    have a8:Hid (bP F.heap.size F mb B (s.mark num) w8):=J ⟨l8,B8,H8,hx,CB⟩;have bb:Hid (qO (s.mark num)):=J (by have:=(Z hs).so;exact⟨this.ins,this.ay,this.af,this.len⟩);clear hx CB H8 H7 hv fo C7 C8 dn hr k1 dg;have fy:=(Z hs).due;have fA:Hid (∀k,w5.heap.size<=k->¬B k):=J (λk K e=>by have:=(Z H).lt k e;have:=g4.size;omega);have mm:=g6.size;have hy:Hid (∀f∈fs.drop 0,pM (s.mark num) f):=J (λf n=>(Z a4 f n).mono (λk e=>e));replace fy:=J fy;clear HD a4;go_loopg [16] (j+1) (λg k2 wr=>∃(q:Nat)(r:ah),q<=j/\k2=I X q/\g=j+1-q/\bP F.heap.size F mb B r wr/\qO r/\(∀f∈fs.drop q,pM r f)/\ah.fP num fs (s.mark num)=ah.fP num (fs.drop q) r/\(r.due=s.due\/r.due=s.due++[num]));case atStart=>exact⟨0,s.mark num,O,Q,O,Z a8,Z bb,Z hy,Q,φ Q⟩
    case round=>
     clear a8 bb hy;obtain⟨q,r,hq,rfl,rfl,a8,bb,a4,ak,hz⟩:=hrel;rename D=>hA
     obtain⟨lj,Bj,Hj,eo,Cj⟩:=id a8;have du:=(Z b5).aA Cj (λk h1 h2 e=>Z fA k h1 e);by_cases bx:q<j
     .have gd:q<fs.length:=by rw[Z bw];exact bx
      obtain⟨gf,ra,rc,e9,⟨y0,y1,y2,y3,y4,y5,y6⟩,gg,dv,ao⟩:=du.get (j:=q) (by have:=Z b6;omega) (Z e8 q bx);subst e9;obtain⟨f,n⟩:=í (jn fs q);have hB:fs.drop q=f::fs.drop (q+1):=by
       have e:=sF gd;rw[dB gd]at e;rw[wH gd,aR e,n]
      rw[<-n]at y0 y1 y2 y3 y4 y5 y6 gg dv ao;rw[hB]at a4 ak;have gh:=a4 f Γ;have er:=J (QU hA mb lj r Bj Hj bb f ra f.ranges.length rc gg (λgi y ey=>⟨λe=>(eo _ e).elim (Z fA _ (dv gi y ey).1) (λe=>by have:=(dv gi y ey).2;omega),bX (dv gi y ey).2 Cj.size⟩) gh);obtain⟨dx,gm⟩:=Rf bb gh;have gn:=Rh r f;have gq:=we r f;have hC:ah.fP num (f::fs.drop (q+1)) r=if(r.take f).1=0 then ah.fP num (fs.drop (q+1)) ((r.take f).2.note f num)else((r.take f).1,(r.take f).2.fail (r.take f).1):=rfl
      rw[hC]at ak;obtain⟨d,hH⟩:=í ((r.take f).1);obtain⟨b,hK⟩:=í ((r.take f).2);rw[<-hH]at ak gn er;rw[<-hK]at ak dx gm gq er;have hL:Hid (∀g∈fs.drop (q+1),pM b g):=J (λg hg=>(a4 g (by simp[hg])).mono gm);have gr:Hid (b.due=s.due\/b.due=s.due++[num]):=J (by rw[gq.2];exact hz);have q0:(0:Int)<=q:=O;have L:(q:Int)<j:=O;have mv:=y0;unfold bC at er;clear hC hH hK hB gh gm gq a4 gg dv ao hz Hj;replace⟨n,ak,dx,bb,a8,du⟩:=mY n ak dx bb a8 du;go_upto_region 28 with(go_at_call 79;apply(Z er).mono;rintro e w9⟨rfl,hM⟩;have k6:=J hM;clear hM)
      obtain⟨l9,B9,H9,k7,C9⟩:=Z k6;have et:=J (λs' W(h:bP w9.heap.size w9 mb B9 s' W)=>(show bP F.heap.size F mb B s' W from bP.trans eo Cj (bP.trans k7 C9 h)));by_cases he:d=0
      .have hS:Hid (ah.fP num fs (s.mark num)=ah.fP num (fs.drop (q+1)) (b.note f num)):=J (by rw[Z ak,aH he]);subst he;have hT:=(Z du).aA C9 (λk h1 h2 e=>(eo k e).elim (Z fA k h1) (λe=>O));obtain⟨mw,-,-,e9,⟨v0,-,-,-,-,-,-⟩,-,-,-⟩:=hT.get (j:=q) (by have:=Z b6;omega) (Z e8 q bx);cases e9;rw[<-Z n]at v0;have hV:=H9.mc.due;obtain⟨da,dc,e1,d2,d3,-,-⟩:=ns H9.due;rw[e1]at hV;unfold maxLen at d3;obtain⟨A,bj⟩:=í b.due.length;rw[<-bj]at hV d2;obtain⟨t,ht⟩:=í (b.yS f num);have br:Hid (0<A->∃g,da=E ⟨g,0,N⟩/\κ w9 ⟨g,A-1,N⟩=E (I U (b.due.getD (A-1) 0))):=J (λh0=>by
        obtain⟨g,mx,e2,-,-,e3,-,-⟩:=nX H9.due (A-1) (by rw[<-bj];omega);rw[e1]at e2;cases e2;refine⟨g,Q,?_⟩
        rw[e3,kU,dB O];simp[List.getD,dB (O:A-1<b.due.length)])
       have V:Hid (t=(kP f&&(decide (A=0)||(b.due.getD (A-1) 0 !=num)))):=J (by rw[ht,bj];rfl);obtain⟨wa,ax⟩:=í w9.drew;have ga:G w9 wa N:=by rw[ax];exact aK (au _ _)
       have Ha:=H9.ag ga;have mA:A<=600000:=by
        rw[bj];have:=Z fy;obtain e|e:=Z gr<;>rw[e]
        omega;rw[bS];simp;omega
       replace e1:=J e1;have hW:Hid (b.note f num=if t then{b with due:=b.due++[num]}else b):=J (by unfold ah.note;rw[<-ht]);obtain⟨k8,h4⟩:=í (b.due.getD (A-1) 0);rw[<-h4]at br V;clear H9 hT h4 ht;replace⟨Ha,bj⟩:=aT Ha bj;go_upto_region 33 with fail;go_cut [199]from 133 to 209 (λv wx=>v=β t/\wx=wa);case first=>
        as_aux_lemma=>
         replace ax:=J ax;by_cases c1:f.kind=3
         .have z:Hid (t=θ):=J (by rw[Z V];unfold kP;rw[c1];rfl);rw[c1]at v0;replace c1:=J c1;clear V br;go_region;go_wp2;go_meet;exact⟨by rw[Z z],(Z ax).symm⟩
         have b1:(f.kind !=3)=ρ:=by simpa using c1
         by_cases c2:f.kind=1
         .have z:Hid (t=θ):=J (by rw[Z V];unfold kP;rw[c2];rfl);rw[c2]at v0;replace⟨c1,c2⟩:=aT c1 c2;clear V br;go_region;go_wp2;go_meet;exact⟨by rw[Z z],(Z ax).symm⟩
         have b2:(f.kind !=1)=ρ:=by simpa using c2
         have hw:kP f=ρ:=by unfold kP;rw[bU c1,bU c2];rfl
         by_cases c3:A=0
         .have z:Hid (t=ρ):=J (by rw[Z V,hw,bU c3];rfl);clear hw;replace⟨c1,c2⟩:=aT c1 c2;subst c3;clear V br;go_region;go_wp2;go_meet;exact⟨by rw[Z z],(Z ax).symm⟩
         obtain⟨gl,rfl,k9⟩:=Z br O;have b3:((A:Int)==0)=θ:=Ψ;have wl:X.wrap ((A:Int)-1)=(((A-1:Nat)):Int):=by rw[uO];omega
         have l0:(0:Int)<=(((A-1:Nat)):Int):=O;have l1:(((A-1:Nat)):Int)<(A:Int):=O;obtain⟨dm,gu⟩:=í (A-1);rw[<-gu]at k9 wl l0 l1;replace gu:=J gu;obtain c4|c4:=(oX (k8 !=num)).symm
         .have z:Hid (t=θ):=J (by rw[Z V,hw,c4,bT c3];rfl);clear hw;replace⟨c1,c2⟩:=aT c1 c2;clear V br;go_region;go_wp2;go_meet;exact⟨by rw[Z z],(Z ax).symm⟩
         have z:Hid (t=ρ):=J (by rw[Z V,hw,c4];simp);clear hw;replace⟨c1,c2⟩:=aT c1 c2;clear V br;go_region;go_wp2;go_meet;exact⟨by rw[Z z],(Z ax).symm⟩
       case rest=>
        as_aux_lemma=>
         obtain⟨rfl,db⟩:=hcut;rw[db];clear ax db V br;cases t with
         |false=>
          have hN:b.note f num=b:=by rw[Z hW];rfl
          have u:Hid (bP F.heap.size F mb B (b.note f num) wa):=J (by rw[hN];exact Z et _ _ ⟨l9,B9,Z Ha,λk K=>φ K,(aj.of ga).mono (λk _ e=>by cases e)⟩);have gw:=J ((Z dx).note f num);have gA:Hid (∀g∈fs.drop (q+1),pM (b.note f num) g):=J (by rw[hN];exact Z hL);have gB:=J (Bi f (Z gr));clear hN;go_wp2;go_roundg (j+1-(q+1));case measure=>omega
          case rel=>exact⟨q+1,b.note f num,O,by go_num,Q,Z u,Z gw,Z gA,Z hS,Z gB⟩
         |true=>
          have hN:b.note f num={b with due:=b.due++[num]}:=by rw[Z hW];rfl
          obtain⟨a7,n7,c7,lb,ev,gM,h6⟩:=(Z Ha).QX num (by have:=Z bj;omega) Q;have lk:=(Z Ha).mc.due;have m7:=gM.due;have mB:=gM.fz 25;rw[Z e1,<-Z bj]at ev lk m7;have u:Hid (bP F.heap.size F mb B (b.note f num) (ζ lb ⟨mb,25,N⟩ (Y a7 n7 c7))):=J (by rw[hN];exact Z et _ _ (h6.pre ga));have gw:=J ((Z dx).note f num);have gA:Hid (∀g∈fs.drop (q+1),pM (b.note f num) g):=J (by rw[hN];exact λg hg=>(Z hL g hg).mono (λk e=>e));have gB:=J (Bi f (Z gr));replace ev:=J ev;clear hN gM h6;go_wp2_with (at_builtin;refine jN Ξ 78 78 Ξ _ _ Ξ _ _ _ Ξ Ξ (Z ev) ?_);go_roundg (j+1-(q+1));case measure=>omega
          case rel=>exact⟨q+1,b.note f num,O,by go_num,Q,Z u,Z gw,Z gA,Z hS,Z gB⟩
      have ea:Hid (P=(d,-1,b.fail d)):=J (by rw[Z hk,Z ak,aE he]);have d1:(d !=0)=ρ:=by simpa using he
      have wv:U.wrap d=d:=by rw[cZ];omega
      have M9:=H9.mc;have f19:=M9.fz 19;have ee:=M9.closed;obtain⟨ec,h7⟩:=H9.qM 19 (I X d) {b with closed:=d} (A5 H9.key d) rfl rfl rfl rfl rfl rfl rfl;have f20:=ec.mc.fz 20;have j4:=ec.mc.code;obtain⟨ed,h8⟩:=ec.qM 20 (I U d) {b with closed:=d,code:=d} (A7 ec.key d) rfl rfl rfl rfl rfl rfl rfl;have f21:=ed.mc.fz 21;have m0:=ed.mc.said;obtain⟨h9,ih⟩:=ed.qM 21 (β (d==10)) (b.fail d) (FY ed.key (d==10)) Q Q Q Q Q Q Q;have b8:Hid (R (b.fail d) (((ζ w9 ⟨mb,19,N⟩ (I X d)).setCell ⟨mb,20,N⟩ (I U d)).setCell ⟨mb,21,N⟩ (β (d==10)))):=J (by
       rw[Z hR];exact bP.pre b4 (Z et _ _ ⟨l9,B9,h9,λk K=>φ K,(h7.trans (h8.trans ih)).mono (λk _ e=>by obtain e|e|e:=e<;>exact e)⟩))
      clear M9 H9 ec ed h9 h7 h8 ih et;replace gn:=J gn;obtain c5|c5:=(oX (d==10)).symm
      all_goals
       rw[c5]at b8
       go_wp2_with fail
       exact cC (v:=τ #[I X d,I X (-1)]) (by simp[results,results43,go_sem]) Q ⟨by rw[Z ea],by rw[Z ea];exact Z b8⟩
     obtain rfl:q=j:=O;have ea:Hid (P=(0,-1,r)):=J (by
      have e:fs.drop q=[]:=by rw[List.drop_eq_nil_iff,Z bw];omega
      rw[Z hk,ak,e];rfl)
     have b8:Hid (R r hA):=J (by rw[Z hR];exact bP.pre b4 a8);clear a8 Hj eo Cj du ak a4 bb;go_wp2_with fail;exact cC (v:=τ #[I X 0,I X (-1)]) (by simp[results,results43,go_sem]) Q ⟨by rw[Z ea],by rw[Z ea];exact Z b8⟩
