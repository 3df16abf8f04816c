import Derived.Test.YtjnmokmchdfchaaDoorVn
namespace Go.Proofs.YtjnmokmchdfchaaDoor
open Go.RowKit
attribute [local go_sem ↓] Go.wp_at_zero Go.wp_at_succ

/-- The document's bytes of a number. -/
def vrB (n hd : Int) (k j : Nat) : Int := n / 256 ^ (k - 1 - j) % 256 + if j = 0 then hd * 64 else 0
def vrs (n hd : Int) (k : Nat) : List Int := (List.range k).map (vrB n hd k)
theorem vrs_len (n hd : Int) (k : Nat) : (vrs n hd k).length = k := by simp [vrs]
theorem vrs_take (n hd : Int) (k j : Nat) (h : j < k) : (vrs n hd k).take (j + 1) = (vrs n hd k).take j ++ [vrB n hd k j] := by
  have hl : j < (vrs n hd k).length := by rw [vrs_len]; exact h
  rw [List.take_succ_eq_append_getElem hl]
  simp [vrs]
theorem vr1 {n : Int} (h : n < 64) (h0 : 0 ≤ n) : varL n = vrs n 0 1 := by
  simp [varL, vrs, vrB, h]; omega
theorem vr2 {n : Int} (h : ¬ n < 64) (h2 : n < 16384) : varL n = vrs n 1 2 := by
  simp [varL, vrs, vrB, h, h2, List.range_succ]; omega
theorem vr4 {n : Int} (h : ¬ n < 64) (h2 : ¬ n < 16384) (h3 : n < 1073741824) : varL n = vrs n 2 4 := by
  simp [varL, vrs, vrB, h, h2, h3, List.range_succ]; omega
theorem vr8 {n : Int} (h : ¬ n < 64) (h2 : ¬ n < 16384) (h3 : ¬ n < 1073741824) (h4 : V62 n) : varL n = vrs n 3 8 := by
  unfold V62 at h4
  simp [varL, vrs, vrB, h, h2, h3, List.range_succ]; omega
theorem div_step (n : Int) (q : Nat) : n / 256 ^ q / 256 = n / 256 ^ (q + 1) := by
  rw [Int.ediv_ediv_of_nonneg (Int.le_of_lt (Int.pow_pos (by decide))), Int.pow_succ]
theorem div_w {n : Int} (h : V62 n) (q : Nat) : 0 ≤ n / 256 ^ q ∧ n / 256 ^ q ≤ 4611686018427387903 := by
  unfold V62 at h
  have hp : (0 : Int) < 256 ^ q := Int.pow_pos (by decide)
  exact ⟨Int.ediv_nonneg h.1 (Int.le_of_lt hp), Int.le_trans (Int.ediv_le_self _ h.1) h.2⟩
set_option maxRecDepth 100000 in
set_option maxHeartbeats 2000000 in
theorem varint_any (base : Nat) (a : Option Addr) (c : Nat) (l : List Int) (n : Int) (w : World) (ho : OwnB w base (.slice a l.length c) l) (hn : V62 n) (hbase : base ≤ w.heap.size) (hl : l.length ≤ 90000000) :
    Calls Tryd.prog 39 #[.slice a l.length c, .int .u64 n] w fun e w' =>
      ∃ a' c', e = .returned (.slice a' (l.length + (varL n).length) c') ∧ Grew w base (.slice a l.length c) w' (.slice a' (l.length + (varL n).length) c') (l ++ varL n) := by
  have hn' := hn
  obtain ⟨n0, n1⟩ := hn
  obtain ⟨k, hd, hv, hk⟩ : ∃ (k : Nat) (hd : Int), varL n = vrs n hd k ∧ ((k = 1 ∧ hd = 0 ∧ n < 64) ∨ (k = 2 ∧ hd = 1 ∧ ¬ n < 64 ∧ n < 16384) ∨ (k = 4 ∧ hd = 2 ∧ ¬ n < 16384 ∧ n < 1073741824) ∨ (k = 8 ∧ hd = 3 ∧ ¬ n < 1073741824)) := by
    by_cases h1 : n < 64
    · exact ⟨1, 0, vr1 h1 n0, .inl ⟨rfl, rfl, h1⟩⟩
    · by_cases h2 : n < 16384
      · exact ⟨2, 1, vr2 h1 h2, .inr (.inl ⟨rfl, rfl, h1, h2⟩)⟩
      · by_cases h3 : n < 1073741824
        · exact ⟨4, 2, vr4 h1 h2 h3, .inr (.inr (.inl ⟨rfl, rfl, h2, h3⟩))⟩
        · exact ⟨8, 3, vr8 h1 h2 h3 hn', .inr (.inr (.inr ⟨rfl, rfl, h3⟩))⟩
  have hlen := vrs_len n hd k
  have htk := vrs_take n hd k
  have hdw := div_w hn'
  have hds := div_step n
  rw [hv, hlen]
  clear hv
  have hk1 : 1 ≤ k ∧ k ≤ 8 := by omega
  obtain ⟨S, hS2⟩ : ∃ S : Int, S = (k : Int) - 1 := ⟨_, rfl⟩
  have hw8 : ∀ j, j < k → W8 (vrB n hd k j) := by
    intro j hj
    unfold vrB W8
    by_cases h0 : j = 0
    · subst h0
      simp only [if_true, Nat.sub_zero]
      rcases hk with ⟨rfl, rfl, h⟩ | ⟨rfl, rfl, h, h'⟩ | ⟨rfl, rfl, h, h'⟩ | ⟨rfl, rfl, h⟩ <;> simp <;> omega
    · simp only [h0, if_false]; omega
  replace hlen := hide hlen
  replace htk := hide htk
  replace hS2 := hide hS2
  replace hdw := hide hdw
  replace hds := hide hds
  replace hw8 := hide hw8
  have hkk : Hid ((k = 1 ∧ hd = 0) ∨ (k = 2 ∧ hd = 1) ∨ (k = 4 ∧ hd = 2) ∨ (k = 8 ∧ hd = 3)) := hide (by omega)
  rcases hk with ⟨hk, hd2, h1⟩ | ⟨hk, hd2, h1, h2⟩ | ⟨hk, hd2, h1, h2⟩ | ⟨hk, hd2, h1⟩
  all_goals
    first | (have e1 : decide (1073741824 ≤ n) = true := by simp; omega) | (have e1 : decide (1073741824 ≤ n) = false := by simp; omega)
    first | (have e2 : decide (16384 ≤ n) = true := by simp; omega) | (have e2 : decide (16384 ≤ n) = false := by simp; omega)
    first | (have e3 : decide (64 ≤ n) = true := by simp; omega) | (have e3 : decide (64 ≤ n) = false := by simp; omega)
    replace hk := hide hk
    replace hd2 := hide hd2
    go_enter Tryd.func39, Tryd.ntmps39
    go_wp2_with fail
    clear e1 e2 e3
    first | (have hSL : Hid ((0 : Int) = S) := hide (by have := unhide hk; have := unhide hS2; omega)) | (have hSL : Hid ((1 : Int) = S) := hide (by have := unhide hk; have := unhide hS2; omega)) | (have hSL : Hid ((3 : Int) = S) := hide (by have := unhide hk; have := unhide hS2; omega)) | (have hSL : Hid ((7 : Int) = S) := hide (by have := unhide hk; have := unhide hS2; omega))
    go_loopw [0, 7] (fun v i wr => ∃ (j : Nat) (a' : Option Addr) (c' : Nat), j ≤ k ∧ i = .int .i64 (S - (j : Int)) ∧ v = .slice a' (l.length + j) c' ∧ Grew w base (.slice a l.length c) wr v (l ++ (vrs n hd k).take j)) (fun _ i _ => (intOf i + 1).toNat)
    case atStart => exact ⟨0, a, c, by omega, congrArg (Value.int .i64) (by have := unhide hk; have := unhide hS2; omega), rfl, by simpa using Grew.refl ho⟩
    case round =>
      obtain ⟨j, a', c', hj, rfl, rfl, o1⟩ := hrel
      have hh : 0 ≤ hd ∧ hd ≤ 3 := by have := unhide hkk; omega
      obtain ⟨hh0, hh1⟩ := hh
      by_cases hlt : j < k
      · obtain ⟨s, hs⟩ : ∃ s : Nat, (s : Int) = S - (j : Int) := ⟨k - 1 - j, by have := unhide hS2; omega⟩
        have hs8 : s = k - 1 - j := by have := unhide hS2; omega
        have hs64 : s < 8 := by omega
        rw [← hs]
        replace hs := hide hs
        replace hs8 := hide hs8
        replace o1 := hide o1
        go_wp2_with fail
        go_loop [8, 9] (fun b q => ∃ r : Nat, r ≤ s ∧ q = .int .i64 (r : Int) ∧ b = .int .u64 (n / 256 ^ r)) (fun _ q => s - (intOf q).toNat)
        case atStart => exact ⟨0, by omega, rfl, by simp⟩
        case round =>
          obtain ⟨r, hr, rfl, rfl⟩ := hrel
          have hdr := unhide hdw r
          have hdr2 := hide (unhide hds r)
          obtain ⟨d0, d1⟩ := hdr
          obtain ⟨x, hx⟩ : ∃ x, x = n / 256 ^ r := ⟨_, rfl⟩
          rw [← hx] at d0 d1 hdr2 ⊢
          by_cases hrs : r < s
          · go_wp2_with fail
            go_round
            case rel => exact ⟨r + 1, by omega, by go_num, by rw [← unhide hdr2]; go_num⟩
            case measure => simp [intOf]; omega
          · obtain rfl : r = s := by omega
            have hb8 := unhide hw8 j hlt
            have hbd : vrB n hd k j = x % 256 + if j = 0 then hd * 64 else 0 := by unfold vrB; rw [← unhide hs8, hx]
            have ht := unhide htk j hlt
            have hlen2 : (l ++ (vrs n hd k).take j).length = l.length + j := by simp [unhide hlen]; omega
            have bz := fun y h => one_new wr y h
            have o2 := fun y => ((unhide o1).still (World.grownBy_alloc wr (.cells #[.int .u8 y] 5) none)).own
            have hsz := (unhide o1).size
            replace hlen2 := hide hlen2
            replace ht := hide ht
            replace hx := hide hx
            replace hb8 := hide hb8
            replace bz := hide bz
            replace o2 := hide o2
            replace hbd := hide hbd
            by_cases hj0 : j = 0
            · have hq : ∀ L : Int, L = S → ((r : Int) == L) = true := fun L hL => by have := unhide hs; simp; omega
              replace hq := hq _ (unhide hSL)
              have hj1 := hide hj0
              clear hj0
              go_wp2_with (at_builtin; refine wpList_appendB (by rfl) _ _ (by rfl) base _ (l ++ (vrs n hd k).take j) (by rfl) (unhide o2 _) _ _ _ [_] (by rfl) (unhide bz _ ?_) ?_ ?_ ?_; (unfold W8; omega); (rw [unhide hlen2]; simp; omega); (simp; omega); rw [unhide hlen2]; intro a3 c3 w3 o3 g3 g4)
              refine ⟨⟨j + 1, a3, c3, by omega, by have := unhide hs; simp; omega, rfl, ?_⟩, by have := unhide hs; simp [intOf] <;> omega⟩
              rw [unhide ht, ← List.append_assoc]
              have h9 := unhide hbd
              have h10 := unhide hb8
              rw [if_pos (unhide hj1)] at h9
              have h12 := unhide hd2
              unfold W8 at h10
              have h11 : ∀ y, y = vrB n hd k j → OwnB w3 base (.slice a3 (l.length + j + 1) c3) (l ++ (vrs n hd k).take j ++ [y]) → Grew w base (.slice a l.length c) w3 (.slice a3 (l.length + j + 1) c3) (l ++ (vrs n hd k).take j ++ [vrB n hd k j]) := by
                intro y hy hO
                rw [← hy]
                exact (unhide o1).app (World.grownBy_alloc _ _ _) hO g3 g4
              exact h11 _ (by omega) o3
            · have hq : ∀ L : Int, L = S → ((r : Int) == L) = false := fun L hL => by have := unhide hs; simp; omega
              replace hq := hq _ (unhide hSL)
              go_wp2_with (at_builtin; refine wpList_appendB (by rfl) _ _ (by rfl) base _ (l ++ (vrs n hd k).take j) (by rfl) (unhide o2 _) _ _ _ [_] (by rfl) (unhide bz _ ?_) ?_ ?_ ?_; (unfold W8; omega); (rw [unhide hlen2]; simp; omega); (simp; omega); rw [unhide hlen2]; intro a3 c3 w3 o3 g3 g4)
              refine ⟨⟨j + 1, a3, c3, by omega, by have := unhide hs; simp; omega, rfl, ?_⟩, by have := unhide hs; simp [intOf] <;> omega⟩
              rw [unhide ht, ← List.append_assoc, unhide hbd, if_neg hj0, Int.add_zero]
              exact (unhide o1).app (World.grownBy_alloc _ _ _) o3 g3 g4
      · obtain rfl : j = k := by omega
        have hneg : ¬ (0 : Int) ≤ S - (j : Int) := by have := unhide hS2; omega
        go_wp2_with fail
        go_ret
        refine ⟨a', c', rfl, ?_⟩
        rw [List.take_of_length_le (by rw [unhide hlen]; exact Nat.le_refl _)] at o1
        exact o1
end Go.Proofs.YtjnmokmchdfchaaDoor
