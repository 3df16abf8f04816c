import Derived.Test.YtjnmokmchdfchaaGreatDoorZWq
import Derived.Test.YtjnmokmchdfchaaGreatDoorZWr
set_option maxRecDepth 1000000
set_option maxHeartbeats 0
set_option linter.all false
namespace Go.Proofs.YtjnmokmchdfchaaGreatDoor
open Go.RowKit Tryz
attribute[local go_sem↓]Go.wp_at_zero Go.wp_at_succ
variable{H:Fr}{L:List Int}
structure CY(o a:Ot):Prop where
 aE:a.aE=o.aE
 sE:a.sE=o.sE
 sG:a.sG=o.sG
 code:a.code=o.code
theorem MO(L:List (Int×Pc)):∀(out:Nat->Ot)(k:Nat),CY (out k) (dy out L k):=by
 induction L with
 |nil=>intro out k;exact⟨rfl,rfl,rfl,rfl⟩
 |cons x L b=>
  intro out k;have e:dy out (x::L)=dy (aw out x.1.toNat ((out x.1.toNat).eU x.2)) L:=rfl;rw[e];obtain⟨c,d,f,g⟩:=b (aw out x.1.toNat ((out x.1.toNat).eU x.2)) k;have a:CY (out k) (aw out x.1.toNat ((out x.1.toNat).eU x.2) k):=by
   unfold aw;split;rename_i h;rw[h];exact⟨rfl,rfl,rfl,rfl⟩
   exact⟨rfl,rfl,rfl,rfl⟩
  exact⟨c.trans a.aE,d.trans a.sE,f.trans a.sG,g.trans a.code⟩
theorem MP(L:List (Int×Pc))(k:Nat):∀(out:Nat->Ot),aZ (out k).h.ag->aZ (dy out L k).h.ag/\∀m,Sm (dy out L k).h.ag m↔Sm (out k).h.ag m\/∃x∈L,x.1.toNat=k/\x.2.x.lo<=m/\m<x.2.x.hi:=by
 induction L with
 |nil=>intro out h;exact⟨h,λm=>⟨.inl,λe=>e.elim id (λ⟨x,d,_⟩=>by cases d)⟩⟩
 |cons x L f=>
  intro out h;have e:dy out (x::L)=dy (aw out x.1.toNat ((out x.1.toNat).eU x.2)) L:=rfl;rw[e];have c:aZ (aw out x.1.toNat ((out x.1.toNat).eU x.2) k).h.ag/\∀m,Sm (aw out x.1.toNat ((out x.1.toNat).eU x.2) k).h.ag m↔Sm (out k).h.ag m\/(x.1.toNat=k/\x.2.x.lo<=m/\m<x.2.x.hi):=by
   by_cases b:k=x.1.toNat;subst b;rw[bm];refine⟨oG _ h,λm=>?_⟩
   rw[show((out x.1.toNat).eU x.2).h.ag=dT (out x.1.toNat).h.ag x.2.x from rfl,lT _ h];simp;rw[bq _ _ b];refine⟨h,λm=>⟨.inl,λq=>q.elim id (λq=>absurd q.1.symm b)⟩⟩
  obtain⟨g,i⟩:=f _ c.1;refine⟨g,λm=>?_⟩
  rw[i m,c.2 m];constructor;rintro((q|q)|⟨y,a,q⟩);exact .inl q;exact .inr ⟨x,by simp,q⟩;exact .inr ⟨y,by simp[a],q⟩;rintro(q|⟨y,a,q⟩);exact .inl (.inl q);obtain rfl|a:=eJ.1 a
  exact .inl (.inr q);exact .inr ⟨y,a,q⟩
def Ql(f:Fr)(k:Nat)(m:Int):Prop:=f.kind=5/\0<f.data.size/\f.stream.toNat=k/\f.offset<=m/\m<cq f
theorem CZ{q:Pk->Bool}{l:List Pk}{y:Int×Pc}:y∈mu q l↔∃x∈l,q x=true/\y.1=x.st/\y.2∈x.ps:=by
 unfold mu;rw[og];constructor;rintro⟨x,a,h⟩;split at h;rename_i b;obtain⟨p,hp,rfl⟩:=fh.1 h;exact⟨x,a,b,rfl,hp⟩
 cases h;rintro⟨x,a,b,c,d⟩;refine⟨x,a,?_⟩
 rw[aM b];exact fh.2 ⟨y.2,d,by rw[<-c]⟩
theorem Dd(h:∀x∈L,W8 x):bl (strOfNums L)=L:=by
 unfold bl;rw[strOfNums_data,pF];conv=>rhs;rw[<-List.map_id L]
 apply r9;intro x a;have:=h x a;unfold W8 at this;simp only[Function.comp,id,UInt8.toNat_ofNat']
 omega
theorem M4(b:H.ok)(g:dm H)(h:(H.ranges.length:Int)<=4611686018427387903):∀x∈cZ H,W8 x:=by
 obtain⟨⟨b1,b2,m,n⟩,⟨i,j⟩,p,q⟩:=g;have c:dH H.offset:=⟨b.2.2.1.1,b1⟩
 have e:dH H.code:=⟨b.2.2.2.1.1,b2⟩
 have f:dH H.stream:=by unfold dH;omega
 intro x a;unfold cZ at a;split at a;rw[dB.1 a];unfold W8;omega;split at a;rw[dB.1 a];unfold W8;omega;split at a;rename_i k;obtain rfl|a:=eJ.1 a
 unfold W8;omega;unfold fC at a;have d:=i k;obtain a|a:=ck.1 a
 exact D3 b.2.2.2.2 d h x a;exact yQ b.2.2.2.2 d _ (by have:=d.1;omega) x a;split at a;obtain rfl|a:=eJ.1 a
 unfold W8;omega;obtain a|a:=ck.1 a
 obtain a|a:=ck.1 a
 exact mi f x a;exact mi e x a;exact mi c x a;split at a;rename_i l;obtain rfl|a:=eJ.1 a
 unfold W8;split<;>omega;obtain a|a:=ck.1 a
 obtain a|a:=ck.1 a
 obtain a|a:=ck.1 a
 exact mi f x a;exact mi c x a;refine mi ?_ x a;have:=j l;have:=c.1;unfold dH;omega;exact qR _ x a;obtain rfl|a:=eJ.1 a
 unfold W8;omega;exact mi e x a
theorem De:∀{b:List Fr},(∀f∈b,f.ok/\dm f/\(f.ranges.length:Int)<=4611686018427387903)->∀x∈bu b,W8 x:=by
 intro b;induction b with
 |nil=>intro _ x a;cases a
 |cons f b c=>
  intro h x a;have e2:bu (f::b)=cZ f++bu b:=rfl;rw[e2]at a;obtain a|a:=ck.1 a
  exact M4 (h f (by simp)).1 (h f (by simp)).2.1 (h f (by simp)).2.2 x a;exact c (λg d=>h g (by simp[d])) x a
theorem Og(key:List Int)(f:Bool)(n:Int)(a:Option Addr)(m cap:Nat)(l:List Int)(w:World)(c:di key)(h:aR n)(i:bh w a m cap l)(hl:l.length<=50000000):
 Calls prog 125 #[.agg (b9 key),.bool f,.int .u64 n,.slice a m cap] w λe d=>
  ∃g,e=.returned (.slice (some ⟨g,0,none⟩) (l.length+16) (l.length+16))/\w.heap.size<=g/\d.heap[g]?=some (.cells (bv (cT key (sd f) n l)).toArray 5 (0,0))/\w.grownBy d none:=by
 have j:=mY c;have b:=aH w (.cells (b9 key) 24);have k:=J (Bq key f n a m cap l (w.alloc (.cells (b9 key) 24)) c h (i.ah (aC _ _ _)) hl);generalize b9 key=K at *;replace b:=J b;go_enter func125,ntmps125;go_wp2_with (refine oy _ (by rfl) (by rfl) _ (by rfl) K ?_ j ?_;exact Z b);refine(Z k).mono ?_;rintro e r⟨g,rfl,p,hp,q⟩;go_wp2_with fail;go_ret;exact⟨g,rfl,by rw[dC]at p;omega,hp,aj (aC _ _ _) q⟩
theorem Oh(key:List Int)(f:Bool)(n:Int)(a:Option Addr)(m cap:Nat)(l:List Int)(w:World)(p:di key)(v:aR n)(c:bh w a m cap l)(hl:l.length<=50000000):
 Calls prog 91 #[.agg (b9 key),.bool f,.int .u64 n,.slice a m cap] w λe q=>
  ∃g,e=.returned (.slice (some ⟨g,0,none⟩) (l.length+16) (l.length+16))/\w.heap.size<=g/\q.heap[g]?=some (.cells (bv (cT key (sd f) n l)).toArray 5 (0,0))/\w.grownBy q none:=by
 have x:=mY p;obtain⟨r,d⟩:=exq (w.alloc (.cells (b9 key) 24));have h:w.grownBy r none:=by rw[d];exact aC _ _ _
 have i:r.heap[w.heap.size]?=some (.cells (b9 key) 24 (0,0)):=by rw[d];exact aH _ _
 have y:=J (c.ah h);replace i:=J i;have z:=J (λ(a:Option Addr)(m cap:Nat)(W:World)(c:bh W a m cap l)=>Og key f n a m cap l W p v c hl);generalize b9 key=K at *;clear c;go_enter func91,ntmps91;go_upto_region 1 with fail;rw[<-d];clear d;go_wp2_with (first|(refine tY (by rfl) _ (by rfl) _ _ _ l (by rfl) (Z y) (by omega) ?_;intro C c2 D b k;replace b:=J b)|(refine oy _ (by rfl) (by rfl) _ (by rfl) K ?_ x ?_;exact iq (Z i) k));refine(Z z _ _ _ _ (Z b).fB).mono ?_;rintro e E⟨g,rfl,F,hp,s⟩;replace hp:=J hp;have A:=J ((Z b).ah s);go_wp2_with fail;refine(qm _ _ _ l _ _ (Z A) (by omega)).mono ?_;rintro e G⟨rfl,t⟩;go_wp2_with fail;go_ret;have H:=h.size;have I:=k.size;have u:=(Z b).lt;have B:=(aO.1 (Z hp)).1;refine⟨g,rfl,by omega,?_,?_⟩
 exact(t.block g B (λe=>by have:=u _ e.symm;omega)).trans (Z hp);exact cA (aj (aj h k) s) t (λj e=>.inl (by have:=u _ e;omega))
def gm:List Int:=[2,7,1,8,0,0,0,0,0,0,0,0,0,0,0,0]
def nY(ao ai:Int):Sd:={Sd.new ao ai gm true with out:=aw (λ_=>Ot.new) 0 {Ot.new with h:={Ot.new.h with bytes:=[102,105,114,115,116]}}}
def kG(s:Sd):Sd:=(bJ s.jf 4).1
def DJ(ai:Int)(m:Nat):Bool:=decide ((bJ (nY (64+m) ai) 4).1.count=1)&&decide ((kG (kG (kG (kG (bJ (nY (64+m) ai) 4).1)))).count=2)
theorem PI(ai:Int):(List.range 237).all (DJ ai)=true:=by kernel_rfl
