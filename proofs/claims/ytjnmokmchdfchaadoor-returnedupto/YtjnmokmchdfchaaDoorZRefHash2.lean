import Derived.Test.YtjnmokmchdfchaaDoorZRefHash
import Derived.Test.YtjnmokmchdfchaaDoorZBytes
import Derived.Test.YtjnmokmchdfchaaDoorZSip2
import Derived.Outline
import Derived.Deep.RegionWith
import Derived.Deep.QuietTactic
import Derived.BigQuiet
namespace Go.Proofs.YtjnmokmchdfchaaDoor
open Go.RowKit

/-- A key as a value. -/
def keyA (key : List Int) : Array Value := (bv key).toArray
def KeyOk (key : List Int) : Prop := key.length = 16 ∧ ∀ x ∈ key, W8 x
theorem keyA_size {key : List Int} (h : KeyOk key) : (keyA key).size = 16 := by simp [keyA, bv, h.1]
theorem bs_block {w : World} {b : Nat} {t : TypeId} {fr : Nat × Nat} {l : List Int} (h : w.heap[b]? = some (.cells (bv l).toArray t fr)) (hl : ∀ x ∈ l, W8 x) (o : Nat) : BS w b o (l.drop o) := by
  refine ⟨fun i hi => ?_, fun x hx => hl x (List.mem_of_mem_drop hx)⟩
  rw [List.length_drop] at hi
  have := getD_bv l (o + i) (by omega)
  simp only [World.cell?, h]
  simpa [List.getElem?_drop] using this
theorem BS.take {w : World} {b o : Nat} {l : List Int} (h : BS w b o l) (n : Nat) : BS w b o (l.take n) := by
  refine ⟨fun i hi => ?_, fun x hx => h.2 x (List.mem_of_mem_take hx)⟩
  rw [List.length_take] at hi
  rw [h.1 i (by omega)]
  simp [show i < n by omega]
theorem BS.drop {w : World} {b o : Nat} {l : List Int} (h : BS w b o l) (n : Nat) : BS w b (o + n) (l.drop n) := by
  refine ⟨fun i hi => ?_, fun x hx => h.2 x (List.mem_of_mem_drop hx)⟩
  rw [List.length_drop] at hi
  have := h.1 (n + i) (by omega)
  rw [show o + n + i = o + (n + i) by omega, this]
  simp [List.getElem?_drop]

theorem mixAll_cons (s : S4) (k : Nat) (l : List Int) : mixAll s (k + 1) l = mixAll (mixS s (lowN (l.take 8))) k (l.drop 8) := by rw [mixAll]
theorem mixAll_zero (s : S4) (l : List Int) : mixAll s 0 l = s := by rw [mixAll]
theorem mixAll_succ (s : S4) (k : Nat) (l : List Int) : mixAll s (k + 1) l = mixS (mixAll s k l) (lowN ((l.drop (8 * k)).take 8)) := by
  induction k generalizing s l with
  | zero => rw [mixAll_cons, mixAll_zero, mixAll_zero, Nat.mul_zero, List.drop_zero]
  | succ k ih =>
    rw [mixAll_cons, ih, List.drop_drop, mixAll_cons s k l]
    rw [show 8 + 8 * k = 8 * (k + 1) by omega]
theorem lowN_w {l : List Int} (h : ∀ x ∈ l, W8 x) (hl : l.length ≤ 8) : W64 (lowN l) := by
  have h1 := lowN_lt l h
  have h2 := pow256_le l.length hl
  exact ⟨h1.1, by omega⟩
theorem beginS_ok {key : List Int} (h : KeyOk key) : (beginS key).ok := by
  have h1 : W64 (lowN (key.take 8)) := lowN_w (fun x hx => h.2 x (List.mem_of_mem_take hx)) (by simp [h.1])
  have h2 : W64 (lowN (key.drop 8)) := lowN_w (fun x hx => h.2 x (List.mem_of_mem_drop hx)) (by simp [h.1])
  exact ⟨xo_w h1 (by unfold W64; omega), xo_w h2 (by unfold W64; omega), xo_w h1 (by unfold W64; omega), xo_w h2 (by unfold W64; omega)⟩
theorem mixAll_ok {s : S4} (h : s.ok) {l : List Int} (hl : ∀ x ∈ l, W8 x) (k : Nat) : (mixAll s k l).ok := by
  induction k with
  | zero => exact h
  | succ k ih => rw [mixAll_succ]; exact mixS_ok ih (lowN_w (fun x hx => hl x (List.mem_of_mem_drop (List.mem_of_mem_take hx))) (by simp; omega))
theorem padTo_len (l : List Int) (n : Int) : (padTo l n).length = 8 * (l.length / 8 + 1) := by simp [padTo]; omega
theorem padTo_w {l : List Int} (hl : ∀ x ∈ l, W8 x) (n : Int) : ∀ x ∈ padTo l n, W8 x := by
  intro x hx
  simp only [padTo, List.mem_append, List.mem_replicate, List.mem_singleton] at hx
  rcases hx with (hx | ⟨_, rfl⟩) | rfl
  · exact hl x hx
  · unfold W8; omega
  · unfold W8; omega

def lenV : Value → Nat | .slice _ n _ => n | _ => 0
theorem own_some {w : World} {base : Nat} {v : Value} {l : List Int} (h : OwnB w base v l) (hl : 0 < l.length) : ∃ g cap, v = .slice (some ⟨g, 0, none⟩) l.length cap ∧ base ≤ g ∧ g < w.heap.size ∧ BS w g 0 l ∧ l.length ≤ cap ∧ cap ≤ maxLen := by
  obtain ⟨a, cap, rfl, ⟨h1, h2, h3, h4, h5⟩, h6, h7⟩ := h.bs
  rcases h5 with ⟨rfl, rfl⟩ | ⟨b, o, rfl, h5⟩
  · omega
  · obtain ⟨k1, k2, k3⟩ := h6 _ rfl
    dsimp only at k3
    subst k3
    exact ⟨b, cap, rfl, k1, k2, h5, h3, h4⟩
/-- Four numbers in block B, of the array's type. -/
def Sv (B : Nat) (s : S4) (w0 w : World) : Prop := w.heap[B]? = some (.cells #[.int .u64 s.a, .int .u64 s.b, .int .u64 s.c, .int .u64 s.d] 69 (0,0)) ∧ w0.grownBy w (some B)

theorem Sv.cells {B : Nat} {s : S4} {w0 w : World} (h : Sv B s w0 w) : (w.cell? ⟨B, 0, none⟩ = some (.int .u64 s.a) ∧ w.cell? ⟨B, 1, none⟩ = some (.int .u64 s.b) ∧ w.cell? ⟨B, 2, none⟩ = some (.int .u64 s.c) ∧ w.cell? ⟨B, 3, none⟩ = some (.int .u64 s.d)) ∧ (∀ o, w.frozen? ⟨B, o, none⟩ = false) := by
  obtain ⟨h, _⟩ := h
  simp [World.cell?, World.frozen?, h]
theorem Sv.set {B : Nat} {s t : S4} {w0 w : World} (h : Sv B s w0 w) {w' : World} (hw : w' = (((w.setCell ⟨B, 0, none⟩ (.int .u64 t.a)).setCell ⟨B, 1, none⟩ (.int .u64 t.b)).setCell ⟨B, 2, none⟩ (.int .u64 t.c)).setCell ⟨B, 3, none⟩ (.int .u64 t.d)) : Sv B t w0 w' := by
  subst hw
  exact ⟨heap_set (heap_set (heap_set (heap_set h.1 _) _) _) _, gb_set (gb_set (gb_set (gb_set h.2 _ _ (.inr rfl)) _ _ (.inr rfl)) _ _ (.inr rfl)) _ _ (.inr rfl)⟩
theorem Sv.gb {B : Nat} {s : S4} {w0 w w' : World} (h : Sv B s w0 w) (g : w.grownBy w' none) : Sv B s w0 w' :=
  ⟨(g.block B (Array.getElem?_eq_some_iff.1 h.1).1 (by simp)).trans h.1, gb_trans' h.2 g (fun j e => by cases e)⟩

set_option maxHeartbeats 1000000 in
set_option maxRecDepth 100000 in
theorem refHash_any (key : List Int) (a : Option Addr) (n cap : Nat) (l : List Int) (w : World) (hk : KeyOk key) (hb : BSv w a n cap l) (hl : l.length ≤ 1000000) : Calls Tryd.prog 12 #[.agg (keyA key), .slice a n cap] w fun e w' =>
    e = .returned (.int .u64 (hashN key l)) ∧ w.grownBy w' none := by
  have hsz := keyA_size hk
  have hK : KeyOk key := hk
  obtain ⟨k1, k2⟩ := hk
  have hbl : (w.alloc (.cells (keyA key) 32)).heap[w.heap.size]? = some (.cells (keyA key) 32 (0, 0)) := heap_alloc_new w _
  have b1 := (bs_block hbl k2 0).take 8
  have b2 := bs_block hbl k2 8
  rw [List.drop_zero] at b1
  obtain ⟨K, hKe⟩ : ∃ K, K = keyA key := ⟨_, rfl⟩
  rw [← hKe] at hsz b1 b2 ⊢
  clear hbl hKe
  replace b1 := hide b1
  replace b2 := hide b2
  go_enter Tryd.func12, Tryd.ntmps12
  go_wp2_with fail
  refine (low_any _ 0 8 16 _ _ (unhide b1) (by simp [k1]) (by decide) (by decide) (by simp [maxLen])).mono ?_
  rintro e w' ⟨rfl, rfl⟩
  go_wp2_with fail
  refine (low_any _ 8 8 8 _ _ (unhide b2) (by simp [k1]) (by decide) (by decide) (by simp [maxLen])).mono ?_
  rintro e w' ⟨rfl, rfl⟩
  go_wp2_with (at_builtin; refine wpList_appendB (by rfl) _ _ (by rfl) (w.heap.size + 1 + 1) _ [] (by rfl) (OwnB.nil _ _) a n cap l (by rfl) ?_ ?_ ?_ ?_; exact hb.gb0 (gb_alloc (gb_alloc (World.grownBy.refl _ _) _) _); (simp; omega); simp; intro a1 c1 w1 o1 g1 _)
  have hS0 : Sv (w.heap.size + 1) (beginS key) w1 w1 := by
    refine ⟨(g1.block (w.heap.size + 1) (by simp) (by simp [Value.ownBlock])).trans ?_, World.grownBy.refl _ _⟩
    have := heap_alloc_new (w.alloc (.cells K 32)) (.cells #[.int .u64 (beginS key).a, .int .u64 (beginS key).b, .int .u64 (beginS key).c, .int .u64 (beginS key).d] 69)
    rw [World.size_alloc] at this
    exact this
  have gw : Below w.heap.size w w1 := gb_below (gb_trans (gb_alloc (gb_alloc (World.grownBy.refl w none) _) _) g1)
  have hz : w.heap.size + 2 ≤ w1.heap.size := by have := g1.size; simpa using this
  clear g1 b1 b2
  obtain ⟨pad, hpad⟩ : ∃ pad, pad = 7 - l.length % 8 := ⟨_, rfl⟩
  have hpd : pad ≤ 7 := by omega
  have hmod : (l.length + pad) % 8 = 7 := by omega
  replace hpad := hide hpad
  have hnl : n = l.length := hb.2.1
  subst hnl
  replace hS0 := hide hS0
  have hlw : ∀ x ∈ l, W8 x := hb.1
  clear hb
  go_loopw [8] (fun v wr => ∃ (j : Nat) (a2 : Option Addr) (c2 : Nat), j ≤ pad ∧ v = .slice a2 (l.length + j) c2 ∧ OwnB wr (w.heap.size + 2) v (l ++ List.replicate j 0) ∧ Below (w.heap.size + 2) w1 wr) (fun v _ => (l.length + pad) - lenV v)
  case atStart => exact ⟨0, a1, c1, by omega, by simp, by simpa using o1, Below.refl _ _⟩
  case round =>
    obtain ⟨j, a2, c2, hj, rfl, o2, g2⟩ := hrel
    have hs2 := g2.size
    have o2' : OwnB (wr.alloc (.cells #[.int .u8 0] 5)) (w.heap.size + 2) (.slice a2 (l.length + j) c2) (l ++ List.replicate j 0) := o2.gb0 (World.grownBy_alloc _ _ _)
    have bz := one_new wr 0 (by unfold W8; omega)
    by_cases hlt : j < pad
    · have e1 : (((l.length : Int) + (j : Int)) % 8 != 7) = true := by rw [bne_iff_ne]; omega
      go_wp2_with (at_builtin; refine wpList_appendB (by rfl) _ _ (by rfl) (w.heap.size + 2) _ (l ++ List.replicate j 0) (by rfl) o2' _ _ _ [0] (by rfl) bz ?_ ?_ ?_; (simp; omega); (simp; omega); intro a3 c3 w3 o3 g3 _)
      go_roundw
      case rel =>
        refine ⟨j + 1, a3, c3, by omega, by simp [Nat.add_assoc], by simpa [List.replicate_succ', List.append_assoc, Nat.add_assoc] using o3, ?_⟩
        exact below_append (g2.alloc (by omega) _) o2' g3 (by simp; omega) (Nat.le_refl _)
      case measure => simp [lenV]; omega
    · obtain rfl : j = pad := by omega
      have e1 : (((l.length : Int) + (j : Int)) % 8 != 7) = false := by rw [bne_eq_false_iff_eq]; omega
      have hlw8 : W8 ((l.length : Int) % 256) := by unfold W8; omega
      have bz := one_new wr _ hlw8
      have o2' : OwnB (wr.alloc (.cells #[.int .u8 ((l.length : Int) % 256)] 5)) (w.heap.size + 2) (.slice a2 (l.length + j) c2) (l ++ List.replicate j 0) := o2.gb0 (World.grownBy_alloc _ _ _)
      go_wp2_with (at_builtin; refine wpList_appendB (by rfl) _ _ (by rfl) (w.heap.size + 2) _ (l ++ List.replicate j 0) (by rfl) o2' _ _ _ [(l.length : Int) % 256] (by rfl) bz ?_ ?_ ?_; (simp; omega); (simp; omega); intro a3 c3 w3 o3 g3 _)
      have gw3 : Below (w.heap.size + 2) w1 w3 := below_append (g2.alloc (by omega) _) o2' g3 (by simp; omega) (Nat.le_refl _)
      have hpl : l ++ List.replicate j 0 ++ [(l.length : Int) % 256] = padTo l l.length := by rw [unhide hpad]; rfl
      have hlen : (l ++ List.replicate j 0).length + [(l.length : Int) % 256].length = 8 * (l.length / 8 + 1) := by simp; omega
      rw [hpl] at o3
      have hgen := own_some o3 (by rw [padTo_len]; omega)
      obtain ⟨P, hP⟩ : ∃ P, P = padTo l l.length := ⟨_, rfl⟩
      have hPl : P.length = 8 * (l.length / 8 + 1) := by rw [hP, padTo_len]
      have hPw : ∀ x ∈ P, W8 x := by rw [hP]; exact padTo_w hlw _
      rw [← hP] at hgen
      obtain ⟨g, c, hv, hgb, hgl, hbs, hcap, hcm⟩ := hgen
      have hS1 : Sv (w.heap.size + 1) (beginS key) w3 w3 := ⟨(gw3.block _ (by omega)).trans (unhide hS0).1, World.grownBy.refl _ _⟩
      have hbegin := beginS_ok hK
      have hfin : Hid (hashN key l = endS (mixAll (beginS key) (l.length / 8 + 1) P)) := by rw [hP]; rfl
      have gfin : Below w.heap.size w w3 := gw.trans (gw3.mono (by omega))
      obtain ⟨q, hq⟩ : ∃ q, q = l.length / 8 + 1 := ⟨_, rfl⟩
      rw [← hq] at hPl hfin
      have hq1 : q ≤ 200000 := by omega
      obtain ⟨T, hT⟩ : ∃ T, T = l.length + j + 1 := ⟨_, rfl⟩
      have e3 := hv
      simp only [Value.slice.injEq] at e3
      obtain ⟨rfl, -, rfl⟩ := e3
      rw [← hT]
      have t1 : T ≤ 8 * q := by omega
      have t2 : 8 * q ≤ T := by omega
      have t3 : T ≤ c3 := by omega
      clear hpl hlen hv o3 g3 o2 o2' g2 hP hq hT bz hlw8 e1 hmod hS0 hj hlt hpd hpad gw3 gw hz hs2 o1
      replace hbs := hide hbs
      go_loopw [9] (fun i wr => ∃ k : Nat, k ≤ q ∧ i = .int .i64 (8 * (k : Int)) ∧ Sv (w.heap.size + 1) (mixAll (beginS key) k P) w3 wr) (fun i _ => 8 * q - (intOf i).toNat)
      case atStart => exact ⟨0, by omega, rfl, hS1⟩
      case round =>
        obtain ⟨k, hk, rfl, hS⟩ := hrel
        by_cases hlt : k < q
        · have hm := mixAll_succ (beginS key) k P
          have hok := mixAll_ok hbegin hPw k
          obtain ⟨⟨a0, b0, c0, d0⟩, hs⟩ : ∃ s, s = mixAll (beginS key) k P := ⟨_, rfl⟩
          have hb8 : BS wr g (8 * k) ((P.drop (8 * k)).take 8) := by
            have := (((unhide hbs).gb hS.2 (by simp; omega)).drop (8 * k)).take 8
            rwa [Nat.zero_add] at this
          have h8 : ((P.drop (8 * k)).take 8).length = 8 := by simp; omega
          have wm : W64 (lowN ((P.drop (8 * k)).take 8)) := lowN_w hb8.2 (by omega)
          rw [← hs] at hm hS hok
          replace hm := hide hm
          clear hs
          replace hb8 := hide hb8
          have hcell := hS.cells
          obtain ⟨⟨q0, q1, q2, q3⟩, qf⟩ := hcell
          dsimp only at q0 q1 q2 q3
          go_wp2_with fail
          refine (low_any _ _ _ _ _ _ (unhide hb8) h8 (by omega) (by omega) (by omega)).mono ?_
          rintro e w4 ⟨rfl, rfl⟩
          obtain ⟨m, hme⟩ : ∃ m, m = lowN ((P.drop (8 * k)).take 8) := ⟨_, rfl⟩
          rw [← hme] at wm hm ⊢
          clear hme hb8 h8
          obtain ⟨o1, o2, o3, o4⟩ := hok
          dsimp only at o1 o2 o3 o4
          go_wp2_with fail
          refine (refRound_any a0 b0 c0 _ _ o1 o2 o3 (xo_w o4 wm)).mono ?_
          rintro e w5 ⟨rfl, g5⟩
          have hS5 : Sv (w.heap.size + 1) ⟨a0, b0, c0, xo d0 m⟩ w3 w5 := Sv.gb (w := _) ⟨heap_set hS.1 _, gb_set hS.2 _ _ (.inr rfl)⟩ g5
          have hok5 : (rnd ⟨a0, b0, c0, xo d0 m⟩).ok := rnd_ok ⟨o1, o2, o3, xo_w o4 wm⟩
          obtain ⟨⟨q0, q1, q2, q3⟩, qf⟩ := hS5.cells
          clear g5
          go_wp2_with fail
          refine (refRound_any _ _ _ _ _ hok5.1 hok5.2.1 hok5.2.2.1 hok5.2.2.2).mono ?_
          rintro e w6 ⟨rfl, g6⟩
          have hS6 : Sv (w.heap.size + 1) (rnd ⟨a0, b0, c0, xo d0 m⟩) w3 w6 := (hS5.set rfl).gb g6
          obtain ⟨⟨q0, q1, q2, q3⟩, qf⟩ := hS6.cells
          clear g6 hS5
          go_wp2_with fail
          go_roundw
          case rel =>
            refine ⟨k + 1, by omega, by go_num, ?_⟩
            rw [unhide hm]
            have hS7 := hS6.set (t := rnd (rnd ⟨a0, b0, c0, xo d0 m⟩)) rfl
            exact ⟨heap_set hS7.1 _, gb_set hS7.2 _ _ (.inr rfl)⟩
          case measure => simp [intOf]; omega
        · obtain rfl : k = q := by omega
          have hok := mixAll_ok hbegin hPw k
          obtain ⟨⟨a0, b0, c0, d0⟩, hs⟩ : ∃ s, s = mixAll (beginS key) k P := ⟨_, rfl⟩
          rw [← hs] at hS hok hfin
          clear hs
          obtain ⟨⟨q0, q1, q2, q3⟩, qf⟩ := hS.cells
          dsimp only at q0 q1 q2 q3
          go_wp2_with fail
          have hS1 : Sv (w.heap.size + 1) ⟨a0, b0, xo c0 255, d0⟩ w3 (wr.setCell ⟨w.heap.size + 1, 2, none⟩ (.int .u64 (bits .xor .u64 c0 255))) := ⟨heap_set hS.1 _, gb_set hS.2 _ _ (.inr rfl)⟩
          have hok1 : (S4.mk a0 b0 (xo c0 255) d0).ok := ⟨hok.1, hok.2.1, xo_w hok.2.2.1 (by unfold W64; omega), hok.2.2.2⟩
          have hend : Hid (hashN key l = xo (xo (xo (rnds ⟨a0, b0, xo c0 255, d0⟩ 4).a (rnds ⟨a0, b0, xo c0 255, d0⟩ 4).b) (rnds ⟨a0, b0, xo c0 255, d0⟩ 4).c) (rnds ⟨a0, b0, xo c0 255, d0⟩ 4).d) := by
            rw [unhide hfin]; rfl
          clear hfin hS q0 q1 q2 q3 qf hok
          generalize S4.mk a0 b0 (xo c0 255) d0 = s0 at *
          go_loopw [11] (fun i wr => ∃ k : Nat, k ≤ 4 ∧ i = .int .i64 (k : Int) ∧ Sv (w.heap.size + 1) (rnds s0 k) w3 wr) (fun i _ => 4 - (intOf i).toNat)
          case atStart => exact ⟨0, by omega, rfl, hS1⟩
          case round =>
            obtain ⟨k, hk, rfl, hS⟩ := hrel
            have hok := rnds_ok hok1 k
            obtain ⟨⟨q0, q1, q2, q3⟩, qf⟩ := hS.cells
            by_cases hlt : k < 4
            · go_wp2_with fail
              refine (refRound_any _ _ _ _ _ hok.1 hok.2.1 hok.2.2.1 hok.2.2.2).mono ?_
              rintro e w6 ⟨rfl, g6⟩
              have hS6 := hS.gb g6
              obtain ⟨⟨q0, q1, q2, q3⟩, qf⟩ := hS6.cells
              clear g6 hS
              go_wp2_with fail
              go_roundw
              case rel => exact ⟨k + 1, by omega, by go_num, hS6.set rfl⟩
              case measure => simp [intOf]; omega
            · obtain rfl : k = 4 := by omega
              go_wp2_with fail
              go_ret
              refine ⟨by rw [unhide hend]; rfl, ?_⟩
              exact gb_of_below (gfin.grown hS.2 gfin.size (fun k e => by cases e; omega))
end Go.Proofs.YtjnmokmchdfchaaDoor
namespace Go.Proofs.YtjnmokmchdfchaaDoor
open Go.RowKit
attribute [local go_sem ↓] Go.wp_at_zero Go.wp_at_succ

set_option maxRecDepth 100000 in
theorem begin_any (key : List Int) (w : World) (hk : KeyOk key) : Calls Tryd.prog 47 #[.agg (keyA key)] w fun e w' =>
    e = .returned (.agg #[.int .u64 (beginS key).a, .int .u64 (beginS key).b, .int .u64 (beginS key).c, .int .u64 (beginS key).d]) ∧ w.grownBy w' none := by
  have hsz := keyA_size hk
  obtain ⟨k1, k2⟩ := hk
  have hbl : (w.alloc (.cells (keyA key) 32)).heap[w.heap.size]? = some (.cells (keyA key) 32 (0, 0)) := heap_alloc_new w _
  have b1 : ∀ W : World, W.heap[w.heap.size]? = some (.cells (keyA key) 32 (0, 0)) → BS W w.heap.size 0 (key.take 8) := fun W h => by
    have := (bs_block h k2 0).take 8
    rwa [List.drop_zero] at this
  have b2 : ∀ W : World, W.heap[w.heap.size]? = some (.cells (keyA key) 32 (0, 0)) → BS W w.heap.size 8 (key.drop 8) := fun W h => bs_block h k2 8
  have hW : (((w.alloc (.cells (keyA key) 32)).alloc (.cells #[.int .u64 0, .int .u64 0, .int .u64 0, .int .u64 0] 85))).heap[w.heap.size]? = some (.cells (keyA key) 32 (0, 0)) := by
    rw [Below.heap_alloc _ _ _ (by simp)]; exact hbl
  obtain ⟨K, hKe⟩ : ∃ K, K = keyA key := ⟨_, rfl⟩
  rw [← hKe] at hsz b1 b2 hW ⊢
  clear hbl hKe
  replace hW := hide hW
  replace b1 := hide b1
  replace b2 := hide b2
  go_enter Tryd.func47, Tryd.ntmps47
  go_wp2_with fail
  go_region_with (first
    | (go_at_call_of 49 (Value.slice (some ⟨w.heap.size, 0, none⟩) 8 16); refine (lowestFirst_any _ _ _ (key.take 8) _ ?_ (by simp [k1]) (by decide)).mono ?_; exact unhide b1 _ (unhide hW); rintro e w' ⟨rfl, rfl⟩)
    | (go_at_call_of 49 (Value.slice (some ⟨w.heap.size, 8, none⟩) 8 8); refine (lowestFirst_any _ _ _ (key.drop 8) _ ?_ (by simp [k1]) (by decide)).mono ?_; exact unhide b2 _ (unhide hW); rintro e w' ⟨rfl, rfl⟩))
  all_goals
    go_wp2
    refine bodyPost_ret (v := .agg #[.int .u64 (beginS key).a, .int .u64 (beginS key).b, .int .u64 (beginS key).c, .int .u64 (beginS key).d]) ?_ rfl ⟨rfl, ?_⟩
    · simp [results, Tryd.results47, go_sem, beginS, xo]
    · first | exact gb_drew (gb_alloc (gb_alloc (World.grownBy.refl _ _) _) _) | exact gb_alloc (gb_alloc (World.grownBy.refl _ _) _) _

theorem pad_take (l : List Int) (n : Int) (k : Nat) (h : 8 * k + 8 ≤ l.length) : ((padTo l n).drop (8 * k)).take 8 = (l.drop (8 * k)).take 8 := by
  simp only [padTo, List.append_assoc]
  rw [List.drop_append_of_le_length (by omega), List.take_append_of_le_length (by simp; omega)]
theorem pad_last (l : List Int) (n : Int) : ((padTo l n).drop (8 * (l.length / 8))).take 8 = splice [0, 0, 0, 0, 0, 0, 0, n % 256] 0 ((l.drop (8 * (l.length / 8))).take 8) := by
  have hr : (l.drop (8 * (l.length / 8))).length = l.length % 8 := by simp; omega
  simp only [padTo, List.append_assoc]
  rw [List.drop_append_of_le_length (by omega)]
  generalize l.drop (8 * (l.length / 8)) = r at *
  have h8 : r.length < 8 := by omega
  rw [← hr]
  have e : r.take 8 = r := List.take_of_length_le (by omega)
  rw [e, splice, List.take_zero, List.nil_append, Nat.zero_add]
  rw [List.take_of_length_le (by simp; omega)]
  congr 1
  rcases r with _ | ⟨_, _ | ⟨_, _ | ⟨_, _ | ⟨_, _ | ⟨_, _ | ⟨_, _ | ⟨_, _ | ⟨_, r⟩⟩⟩⟩⟩⟩⟩⟩ <;> first | rfl | (simp at h8; omega)

/-- A place, d further. -/
def shA (d : Nat) : Option Addr → Option Addr
  | none => none
  | some x => some ⟨x.block, x.off + d, x.spot⟩
theorem BSv.adv {w : World} {a : Option Addr} {n cap : Nat} {l : List Int} (h : BSv w a n cap l) (d : Nat) (hd : d ≤ n) : BSv w (shA d a) (n - d) (cap - d) (l.drop d) := by
  obtain ⟨h1, h2, h3, h4, h5⟩ := h
  refine ⟨fun x hx => h1 x (List.mem_of_mem_drop hx), by rw [List.length_drop, h2], by omega, by omega, ?_⟩
  rcases h5 with ⟨rfl, rfl⟩ | ⟨b, o, rfl, h5⟩
  · exact .inl ⟨rfl, by omega⟩
  · exact .inr ⟨b, o + d, rfl, h5.drop d⟩

theorem bsv_cut {W : World} {bb o o' n c : Nat} {L : List Int} (hw : ∀ x ∈ L, W8 x) (h1 : n = (L.drop 8).length) (h2 : n ≤ c) (h3 : c ≤ maxLen) (hb : BS W bb o L) (h : o' = o + 8 ∨ (L.drop 8).length = 0) : BSv W (some ⟨bb, o', none⟩) n c (L.drop 8) := by
  refine ⟨fun x hx => hw x (List.mem_of_mem_drop hx), h1, h2, h3, .inr ⟨bb, o', rfl, ?_⟩⟩
  rcases h with rfl | h
  · exact hb.drop 8
  · rw [List.eq_nil_of_length_eq_zero h]; exact BS.nil _ _ _
theorem slice_eq {a b : Option Addr} {n m c d : Nat} (h1 : a = b) (h2 : n = m) (h3 : c = d) : Value.slice a n c = .slice b m d := by rw [h1, h2, h3]
set_option maxHeartbeats 1000000 in
set_option maxRecDepth 100000 in
theorem sum_any (key : List Int) (a : Option Addr) (n cap : Nat) (l : List Int) (w : World) (hk : KeyOk key) (hb : BSv w a n cap l) (_hl : l.length ≤ 100000000) : Calls Tryd.prog 29 #[.agg (keyA key), .slice a n cap] w fun e w' =>
    e = .returned (.int .u64 (hashN key l)) ∧ w.grownBy w' none := by
  have hsz := keyA_size hk
  have hbeg := fun W => begin_any key W hk
  have hK : KeyOk key := hk
  obtain ⟨K, hKe⟩ : ∃ K, K = keyA key := ⟨_, rfl⟩
  rw [← hKe]
  simp only [← hKe] at hbeg hsz
  clear hKe
  replace hbeg := hide hbeg
  have hnl : n = l.length := hb.2.1
  subst hnl
  go_enter Tryd.func29, Tryd.ntmps29
  go_wp2_with (refine wpList_loadKey _ (by rfl) (by rfl) _ (by rfl) K ?_ hsz ?_; exact heap_alloc_new _ _)
  refine (unhide hbeg _).mono ?_
  rintro e w1 ⟨rfl, g1⟩
  go_wp2_with fail
  obtain ⟨W2, hW2⟩ : ∃ W, W = (w1.alloc (.cells #[.int .u64 (beginS key).a, .int .u64 (beginS key).b, .int .u64 (beginS key).c, .int .u64 (beginS key).d] 85)).alloc (.cells #[.int .u8 0, .int .u8 0, .int .u8 0, .int .u8 0, .int .u8 0, .int .u8 0, .int .u8 0, .int .u8 ((l.length : Int) % 256)] 87) := ⟨_, rfl⟩
  have gW : w.grownBy W2 none := by rw [hW2]; exact gb_alloc (gb_alloc (gb_trans (gb_alloc (World.grownBy.refl w none) _) g1) _) _
  have hSt : StS w1.heap.size (beginS key) W2 W2 := by
    refine ⟨?_, World.grownBy.refl _ _⟩
    rw [hW2, Below.heap_alloc _ _ _ (by simp)]; exact heap_alloc_new _ _
  have hlast : W2.heap[w1.heap.size + 1]? = some (.cells (bv [0, 0, 0, 0, 0, 0, 0, (l.length : Int) % 256]).toArray 87 (0, 0)) := by
    have := heap_alloc_new (w1.alloc (.cells #[.int .u64 (beginS key).a, .int .u64 (beginS key).b, .int .u64 (beginS key).c, .int .u64 (beginS key).d] 85)) (.cells #[.int .u8 0, .int .u8 0, .int .u8 0, .int .u8 0, .int .u8 0, .int .u8 0, .int .u8 0, .int .u8 ((l.length : Int) % 256)] 87)
    rw [World.size_alloc] at this
    rw [hW2]; exact this
  have hw1 : w.heap.size < w1.heap.size := by have := g1.size; rw [World.size_alloc] at this; omega
  have hbW := hb.gb0 gW
  rw [← hW2]
  clear hW2 g1
  have hok0 := beginS_ok hK
  have hPw := padTo_w hb.1 (l.length : Int)
  have hfin : Hid (hashN key l = endS (mixAll (beginS key) (l.length / 8 + 1) (padTo l l.length))) := rfl
  have hpt := pad_take l (l.length : Int)
  have hpl := pad_last l (l.length : Int)
  obtain ⟨P, hP⟩ : ∃ P, P = padTo l (l.length : Int) := ⟨_, rfl⟩
  rw [← hP] at hPw hfin hpl
  simp only [← hP] at hpt
  replace hpl := hide hpl
  replace hpt := hide hpt
  clear hP
  obtain ⟨q, hq⟩ : ∃ q, q = l.length / 8 := ⟨_, rfl⟩
  rw [← hq] at hfin hpl
  have q1 : 8 * q ≤ l.length := by omega
  have q2 : l.length < 8 * q + 8 := by omega
  clear hq
  replace hbW := hide hbW
  replace hlast := hide hlast
  have hbl : ∀ x, a = some x → l ≠ [] → x.block < w.heap.size := fun x e hne => by
    rcases hb.2.2.2.2 with ⟨h, _⟩ | ⟨b, o, h, hbs⟩
    · rw [h] at e; cases e
    · rw [h] at e; cases e; exact hbs.lt hne
  replace hbl := hide hbl
  have hcp := hb.2.2.1
  have hcm := hb.2.2.2.1
  unfold maxLen at hcm
  go_loopw [1] (fun v wr => ∃ (k : Nat) (a' : Option Addr), k ≤ q ∧ v = .slice a' (l.length - 8 * k) (cap - 8 * k) ∧ BSv W2 a' (l.length - 8 * k) (cap - 8 * k) (l.drop (8 * k)) ∧ (∀ x, a' = some x → l.drop (8 * k) ≠ [] → x.block < w.heap.size) ∧ StS w1.heap.size (mixAll (beginS key) k P) W2 wr) (fun v _ => lenV v)
  case atStart => exact ⟨0, a, by omega, rfl, by simpa using unhide hbW, by simpa using unhide hbl, hSt⟩
  case round =>
    obtain ⟨k, a', hk, rfl, hb', hl', hS⟩ := hrel
    replace hl' := hide hl'
    by_cases hlt : k < q
    · have hne : l.drop (8 * k) ≠ [] := by intro e; have := congrArg List.length e; simp at this; omega
      obtain ⟨hw', -, hcc, hcm', h5⟩ := hb'
      rcases h5 with ⟨rfl, h0⟩ | ⟨bb, o, rfl, hbs⟩
      · omega
      · have hbb := unhide hl' _ rfl hne
        have hbr : BS wr bb o (l.drop (8 * k)) := hbs.gb hS.2 (by intro e; cases e; dsimp only at hbb; omega)
        have hb8 := hide (hbr.take 8)
        have h8 : ((l.drop (8 * k)).take 8).length = 8 := by simp; omega
        have hm := hide (mixAll_succ (beginS key) k P)
        have hok := mixAll_ok hok0 hPw k
        have wm := lowN_w (unhide hb8).2 (by omega)
        have hdd : Hid (l.drop (8 * (k + 1)) = (l.drop (8 * k)).drop 8) := by
          show _ = _
          rw [List.drop_drop]; rfl
        replace hbs := hide hbs
        clear hbr
        go_wp2_with fail
        refine (lowestFirst_any _ _ _ _ _ (unhide hb8) h8 (by omega)).mono ?_
        rintro e w4 ⟨rfl, rfl⟩
        go_wp2_with fail
        refine (mix_any _ _ _ _ _ hS hok wm).mono ?_
        rintro e w5 ⟨rfl, hS5⟩
        go_wp2_with fail
        all_goals go_roundw
        all_goals first
          | (show _ < _; simp [lenV]; omega)
          | (refine ⟨k + 1, _, by omega, slice_eq rfl (by omega) (by omega), ?_, ?_, by rw [unhide hm, unhide hpt k (by omega)]; exact hS5⟩ <;> rw [unhide hdd] <;> skip)
        · split
          · exact bsv_cut hw' (by simp; omega) (by omega) (by omega) (unhide hbs) (.inr (by simp; omega))
          · exact bsv_cut hw' (by simp; omega) (by omega) (by omega) (unhide hbs) (.inl rfl)
        · intro x e _
          split at e <;> (cases e; exact hbb)
    · obtain rfl : k = q := by omega
      have hbw : BSv wr a' (l.length - 8 * k) (cap - 8 * k) (l.drop (8 * k)) :=
        hb'.gb hS.2 (fun j e => by
          cases e; right
          by_cases hl : l.drop (8 * k) = []
          · exact .inl hl
          · right; intro x e; have := unhide hl' x e hl; omega)
      have hl8 : wr.heap[w1.heap.size + 1]? = some (.cells (bv [0, 0, 0, 0, 0, 0, 0, (l.length : Int) % 256]).toArray 87 (0, 0)) := (hS.2.block _ (Array.getElem?_eq_some_iff.1 (unhide hlast)).1 (by simp)).trans (unhide hlast)
      replace hbw := hide hbw
      replace hl8 := hide hl8
      have hok := mixAll_ok hok0 hPw k
      clear hb'
      go_wp2_with (refine wpList_copyB _ _ (by rfl) (by rfl) (w1.heap.size + 1) 0 8 8 (by rfl) _ _ _ (by rfl) (l.drop (8 * k)) (unhide hbw) [0, 0, 0, 0, 0, 0, 0, (l.length : Int) % 256] _ (unhide hl8) ?_ ?_; (simp; omega); intro w6 hl6 g6)
      have hS6 : StS w1.heap.size (mixAll (beginS key) k P) w6 w6 := ⟨(g6.block _ (Array.getElem?_eq_some_iff.1 hS.1).1 (by simp)).trans hS.1, World.grownBy.refl _ _⟩
      have hb8 : BS w6 (w1.heap.size + 1) 0 ((P.drop (8 * k)).take 8) := by
        have hw8 : ∀ x ∈ (P.drop (8 * k)).take 8, W8 x := fun x hx => hPw x (List.mem_of_mem_drop (List.mem_of_mem_take hx))
        rw [unhide hpl] at hw8 ⊢
        have := bs_block hl6 hw8 0
        rwa [List.drop_zero] at this
      have h8 : ((P.drop (8 * k)).take 8).length = 8 := by rw [unhide hpl, length_splice] <;> simp <;> omega
      have hm := hide (mixAll_succ (beginS key) k P)
      have wm := lowN_w hb8.2 (by omega)
      replace hb8 := hide hb8
      replace hl6 := hide hl6
      go_wp2_with fail
      refine (lowestFirst_any _ _ _ _ _ (unhide hb8) h8 (by omega)).mono ?_
      rintro e w7 ⟨rfl, rfl⟩
      go_wp2_with fail
      refine (mix_any _ _ _ _ _ hS6 hok wm).mono ?_
      rintro e w8 ⟨rfl, hS8⟩
      rw [← unhide hm] at hS8
      go_wp2_with fail
      refine (end_any _ _ _ _ hS8 (mixAll_ok hok0 hPw _)).mono ?_
      rintro e w9 ⟨rfl, g9⟩
      go_wp2
      go_ret
      refine ⟨by rw [unhide hfin]; rfl, ?_⟩
      have b1 : Below w.heap.size w wr := (gb_below gW).grown hS.2 gW.size (fun j e => by cases e; omega)
      have b2 := b1.grown g6 b1.size (fun j e => by cases e; omega)
      exact gb_of_below (b2.grown g9 b2.size (fun j e => by cases e; omega))
end Go.Proofs.YtjnmokmchdfchaaDoor
