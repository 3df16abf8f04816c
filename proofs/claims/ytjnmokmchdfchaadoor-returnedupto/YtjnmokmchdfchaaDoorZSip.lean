import Derived.Test.YtjnmokmchdfchaaDoorProg
import Derived.Test.YtjnmokmchdfchaaDoorZBase
import Derived.WalkKit
import Derived.WalkSpells
import Derived.WalkLawsBesides
import Derived.Outline
import Derived.Deep.DrawnRows
import Derived.Deep.DeepCutAuto
import Derived.Deep.RegionWith
import Derived.BigRegion
namespace Go.Proofs.YtjnmokmchdfchaaDoor
open Go.RowKit
attribute [local go_sem ↓] Go.wp_at_zero Go.wp_at_succ

theorem and63 (k : Nat) (hk : k ≤ 63) : bits .and .u64 (k : Int) 63 = k := by
  have := u64_and_nat k 63 (by omega) (by omega)
  rw [show ((63 : Nat) : Int) = 63 from rfl] at this
  rw [this, show (63 : Nat) = 2 ^ 6 - 1 from rfl, Nat.and_two_pow_sub_one_eq_mod]
  omega
theorem rot_any (x : Int) (k : Nat) (w : World) (hx : W64 x) (hk : k ≤ 63) (h0 : 0 < k) : Calls Tryd.prog 101 #[.int .u64 x, .int .i64 k] w fun e w' => e = .returned (.int .u64 (rotl x k)) ∧ w' = w := by
  have ha := and63 k hk
  have HR := rotl_walk hx k hk h0
  rw [Int.natCast_pow, Int.natCast_pow] at HR
  replace HR := hide HR
  obtain ⟨x0, x1⟩ := hx
  go_enter Tryd.func101, Tryd.ntmps101
  go_wp2
  go_ret
  exact ⟨congrArg (fun z => Ending.returned (.int .u64 z)) (unhide HR), rfl⟩

theorem turn_any (x : Int) (n : Nat) (w : World) (hx : W64 x) (hn : n ≤ 64) : Calls Tryd.prog 51 #[.int .u64 x, .int .i64 n] w fun e w' => e = .returned (.int .u64 (rotl x n)) ∧ w' = w := by
  go_enter Tryd.func51, Tryd.ntmps51
  go_wp2
  go_loop [0, 5] (fun a i => ∃ k : Nat, k ≤ n ∧ i = .int .i64 k ∧ a = .int .u64 (rotl x k)) (fun _ i => n - (intOf i).toNat)
  case atStart => exact ⟨0, Nat.zero_le _, rfl, rfl⟩
  case round =>
    obtain ⟨k, hk, rfl, rfl⟩ := hrel
    have hy := rotl_w hx k
    have HT := hide (turn1_walk hy)
    obtain ⟨y0, y1⟩ := hy
    by_cases hlt : k < n
    · go_wp2
      go_round
      case rel => exact ⟨k + 1, by omega, by go_num, by rw [unhide HT]; rfl⟩
      case measure => simp [intOf]; omega
    · obtain rfl : k = n := by omega
      go_wp2
      go_ret
      exact ⟨rfl, rfl⟩

/-- The four numbers lie in block B; of what was there nothing else has turned. -/
def St (B : Nat) (a b c d : Int) (w0 w : World) : Prop := w.heap[B]? = some (.cells #[.int .u64 a, .int .u64 b, .int .u64 c, .int .u64 d] 85 (0,0)) ∧ w0.grownBy w (some B)
theorem St.cells {B : Nat} {a b c d : Int} {w0 w : World} (h : St B a b c d w0 w) : (w.cell? ⟨B, 0, none⟩ = some (.int .u64 a) ∧ w.cell? ⟨B, 1, none⟩ = some (.int .u64 b) ∧ w.cell? ⟨B, 2, none⟩ = some (.int .u64 c) ∧ w.cell? ⟨B, 3, none⟩ = some (.int .u64 d)) ∧ (∀ o, w.frozen? ⟨B, o, none⟩ = false) := by
  obtain ⟨h, _⟩ := h
  simp [World.cell?, World.frozen?, h]
theorem St.drew {B : Nat} {a b c d : Int} {w0 w : World} (h : St B a b c d w0 w) : St B a b c d w0 w.drew := ⟨h.1, gb_drew h.2⟩
theorem St.s0 {B : Nat} {a b c d : Int} {w0 w : World} (h : St B a b c d w0 w) (x : Int) : St B x b c d w0 (w.setCell ⟨B, 0, none⟩ (.int .u64 x)) := ⟨heap_set h.1 _, gb_set h.2 _ _ (.inr rfl)⟩
theorem St.s1 {B : Nat} {a b c d : Int} {w0 w : World} (h : St B a b c d w0 w) (x : Int) : St B a x c d w0 (w.setCell ⟨B, 1, none⟩ (.int .u64 x)) := ⟨heap_set h.1 _, gb_set h.2 _ _ (.inr rfl)⟩
theorem St.s2 {B : Nat} {a b c d : Int} {w0 w : World} (h : St B a b c d w0 w) (x : Int) : St B a b x d w0 (w.setCell ⟨B, 2, none⟩ (.int .u64 x)) := ⟨heap_set h.1 _, gb_set h.2 _ _ (.inr rfl)⟩
theorem St.s3 {B : Nat} {a b c d : Int} {w0 w : World} (h : St B a b c d w0 w) (x : Int) : St B a b c x w0 (w.setCell ⟨B, 3, none⟩ (.int .u64 x)) := ⟨heap_set h.1 _, gb_set h.2 _ _ (.inr rfl)⟩

def StS (B : Nat) (s : S4) (w0 w : World) : Prop := St B s.a s.b s.c s.d w0 w

set_option maxHeartbeats 4000000 in
set_option maxRecDepth 100000 in
theorem round_any (B : Nat) (a b c d : Int) (w0 w : World) (h : St B a b c d w0 w) (wb : W64 b) (wd : W64 d) : Calls Tryd.prog 85 #[.pointer (some ⟨B, 0, none⟩)] w fun e w' => e = .returned (.tuple #[]) ∧ StS B (rnd ⟨a, b, c, d⟩) w0 w' := by
  have HS := h
  obtain ⟨⟨h0, h1, h2, h3⟩, hf⟩ := h.cells
  clear h
  go_enter Tryd.func85, Tryd.ntmps85
  go_upto_region 0 with fail
  go_cut [] (fun wx => St B (IntKind.u64.wrap (a + b)) b c d w0 wx)
  case first =>
    go_region
    all_goals
      go_wp2_with fail
      go_meet
      exact (HS.s0 _).drew
  case rest =>
    clear h0 h1 h2 h3 hf HS
    obtain ⟨v0, hv0⟩ : ∃ v, v = IntKind.u64.wrap (a + b) := ⟨_, rfl⟩
    rw [← hv0] at hcut
    have wv0 : W64 v0 := by rw [hv0]; exact ad_w _ _
    replace hv0 := hide hv0
    have HS := hcut
    obtain ⟨⟨h0, h1, h2, h3⟩, hf⟩ := hcut.cells
    clear hcut
    go_upto_region 1 with fail
    go_cut [] (fun wx => St B v0 (bits .xor .u64 (rotl b 13) v0) c d w0 wx)
    case first =>
      go_region_with (first | (go_at_call 101; refine (rot_any b 13 _ (by assumption) (by decide) (by decide)).mono ?_; rintro e w' ⟨rfl, rfl⟩))
      all_goals
        go_wp2_with fail
        go_meet
        exact (HS.s1 _).drew
    case rest =>
      clear h0 h1 h2 h3 hf HS
      obtain ⟨v1, hv1⟩ : ∃ v, v = bits .xor .u64 (rotl b 13) v0 := ⟨_, rfl⟩
      rw [← hv1] at hcut
      have wv1 : W64 v1 := by rw [hv1]; exact xo_w (rotl_w wb 13) wv0
      replace hv1 := hide hv1
      have HS := hcut
      obtain ⟨⟨h0, h1, h2, h3⟩, hf⟩ := hcut.cells
      clear hcut
      go_upto_region 2 with fail
      go_cut [] (fun wx => St B (rotl v0 32) v1 c d w0 wx)
      case first =>
        go_region_with (first | (go_at_call 101; refine (rot_any v0 32 _ (by assumption) (by decide) (by decide)).mono ?_; rintro e w' ⟨rfl, rfl⟩))
        all_goals
          go_wp2_with fail
          go_meet
          exact (HS.s0 _).drew
      case rest =>
        clear h0 h1 h2 h3 hf HS
        obtain ⟨v0p, hv0p⟩ : ∃ v, v = rotl v0 32 := ⟨_, rfl⟩
        rw [← hv0p] at hcut
        have wv0p : W64 v0p := by rw [hv0p]; exact rotl_w wv0 32
        replace hv0p := hide hv0p
        have HS := hcut
        obtain ⟨⟨h0, h1, h2, h3⟩, hf⟩ := hcut.cells
        clear hcut
        go_upto_region 3 with fail
        go_cut [] (fun wx => St B v0p v1 (IntKind.u64.wrap (c + d)) d w0 wx)
        case first =>
          go_region
          all_goals
            go_wp2_with fail
            go_meet
            exact (HS.s2 _).drew
        case rest =>
          clear h0 h1 h2 h3 hf HS
          obtain ⟨v2, hv2⟩ : ∃ v, v = IntKind.u64.wrap (c + d) := ⟨_, rfl⟩
          rw [← hv2] at hcut
          have wv2 : W64 v2 := by rw [hv2]; exact ad_w _ _
          replace hv2 := hide hv2
          have HS := hcut
          obtain ⟨⟨h0, h1, h2, h3⟩, hf⟩ := hcut.cells
          clear hcut
          go_upto_region 4 with fail
          go_cut [] (fun wx => St B v0p v1 v2 (bits .xor .u64 (rotl d 16) v2) w0 wx)
          case first =>
            go_region_with (first | (go_at_call 101; refine (rot_any d 16 _ (by assumption) (by decide) (by decide)).mono ?_; rintro e w' ⟨rfl, rfl⟩))
            all_goals
              go_wp2_with fail
              go_meet
              exact (HS.s3 _).drew
          case rest =>
            clear h0 h1 h2 h3 hf HS
            obtain ⟨v3, hv3⟩ : ∃ v, v = bits .xor .u64 (rotl d 16) v2 := ⟨_, rfl⟩
            rw [← hv3] at hcut
            have wv3 : W64 v3 := by rw [hv3]; exact xo_w (rotl_w wd 16) wv2
            replace hv3 := hide hv3
            have HS := hcut
            obtain ⟨⟨h0, h1, h2, h3⟩, hf⟩ := hcut.cells
            clear hcut
            go_upto_region 5 with fail
            go_cut [] (fun wx => St B (IntKind.u64.wrap (v0p + v3)) v1 v2 v3 w0 wx)
            case first =>
              go_region
              all_goals
                go_wp2_with fail
                go_meet
                exact (HS.s0 _).drew
            case rest =>
              clear h0 h1 h2 h3 hf HS
              obtain ⟨v0q, hv0q⟩ : ∃ v, v = IntKind.u64.wrap (v0p + v3) := ⟨_, rfl⟩
              rw [← hv0q] at hcut
              have wv0q : W64 v0q := by rw [hv0q]; exact ad_w _ _
              replace hv0q := hide hv0q
              have HS := hcut
              obtain ⟨⟨h0, h1, h2, h3⟩, hf⟩ := hcut.cells
              clear hcut
              go_upto_region 6 with fail
              go_cut [] (fun wx => St B v0q v1 v2 (bits .xor .u64 (rotl v3 21) v0q) w0 wx)
              case first =>
                go_region_with (first | (go_at_call 101; refine (rot_any v3 21 _ (by assumption) (by decide) (by decide)).mono ?_; rintro e w' ⟨rfl, rfl⟩))
                all_goals
                  go_wp2_with fail
                  go_meet
                  exact (HS.s3 _).drew
              case rest =>
                clear h0 h1 h2 h3 hf HS
                obtain ⟨v3p, hv3p⟩ : ∃ v, v = bits .xor .u64 (rotl v3 21) v0q := ⟨_, rfl⟩
                rw [← hv3p] at hcut
                have wv3p : W64 v3p := by rw [hv3p]; exact xo_w (rotl_w wv3 21) wv0q
                replace hv3p := hide hv3p
                have HS := hcut
                obtain ⟨⟨h0, h1, h2, h3⟩, hf⟩ := hcut.cells
                clear hcut
                go_upto_region 7 with fail
                go_cut [] (fun wx => St B v0q v1 (IntKind.u64.wrap (v2 + v1)) v3p w0 wx)
                case first =>
                  go_region
                  all_goals
                    go_wp2_with fail
                    go_meet
                    exact (HS.s2 _).drew
                case rest =>
                  clear h0 h1 h2 h3 hf HS
                  obtain ⟨v2p, hv2p⟩ : ∃ v, v = IntKind.u64.wrap (v2 + v1) := ⟨_, rfl⟩
                  rw [← hv2p] at hcut
                  have wv2p : W64 v2p := by rw [hv2p]; exact ad_w _ _
                  replace hv2p := hide hv2p
                  have HS := hcut
                  obtain ⟨⟨h0, h1, h2, h3⟩, hf⟩ := hcut.cells
                  clear hcut
                  go_upto_region 8 with fail
                  go_cut [] (fun wx => St B v0q (bits .xor .u64 (rotl v1 17) v2p) v2p v3p w0 wx)
                  case first =>
                    go_region_with (first | (go_at_call 101; refine (rot_any v1 17 _ (by assumption) (by decide) (by decide)).mono ?_; rintro e w' ⟨rfl, rfl⟩))
                    all_goals
                      go_wp2_with fail
                      go_meet
                      exact (HS.s1 _).drew
                  case rest =>
                    clear h0 h1 h2 h3 hf HS
                    obtain ⟨v1p, hv1p⟩ : ∃ v, v = bits .xor .u64 (rotl v1 17) v2p := ⟨_, rfl⟩
                    rw [← hv1p] at hcut
                    have wv1p : W64 v1p := by rw [hv1p]; exact xo_w (rotl_w wv1 17) wv2p
                    replace hv1p := hide hv1p
                    have HS := hcut
                    obtain ⟨⟨h0, h1, h2, h3⟩, hf⟩ := hcut.cells
                    clear hcut
                    go_upto_region 9 with fail
                    go_region_with (first | (go_at_call 101; refine (rot_any v2p 32 _ (by assumption) (by decide) (by decide)).mono ?_; rintro e w' ⟨rfl, rfl⟩))
                    all_goals
                      go_end0
                      refine ⟨rfl, ?_⟩
                      have e : rnd ⟨a, b, c, d⟩ = ⟨v0q, v1p, rotl v2p 32, v3p⟩ := by
                        obtain rfl := unhide hv0; obtain rfl := unhide hv1; obtain rfl := unhide hv0p; obtain rfl := unhide hv2; obtain rfl := unhide hv3; obtain rfl := unhide hv0q; obtain rfl := unhide hv3p; obtain rfl := unhide hv2p; obtain rfl := unhide hv1p; rfl
                      rw [e]; exact (HS.s2 _).drew
end Go.Proofs.YtjnmokmchdfchaaDoor
