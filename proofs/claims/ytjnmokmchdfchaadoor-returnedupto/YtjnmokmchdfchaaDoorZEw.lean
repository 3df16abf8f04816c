import Derived.Test.YtjnmokmchdfchaaDoorZEu
namespace Go.Proofs.YtjnmokmchdfchaaDoor
open Go.RowKit
attribute [local go_sem ↓] Go.wp_at_zero Go.wp_at_succ

def RDec (w : World) (l : List Int) (e : Ending) (w' : World) : Prop :=
  w.grownBy w' none ∧ ((∃ its a n c, decR l = (some (its.map (·.1)), -1) ∧ e = .returned (.tuple #[.slice a n c, .int .i64 0, .int .i64 (-1)]) ∧ OwnF w' w.heap.size (.slice a n c) its) ∨
    (∃ p : Nat, decR l = (none, (p : Int)) ∧ e = .returned (.tuple #[.slice none 0 0, .int .i64 5, .int .i64 (p : Int)])))
theorem raw_mono {l : List Int} {t : Int} {p : Nat} {x : Fr × Nat} (h : rawR l t (p + 1) = some x) : p < x.2 := by
  unfold rawR at h
  split at h
  · cases h; exact Nat.lt_succ_self _
  · split at h
    · cases h; exact Nat.lt_succ_self _
    · split at h
      · exact bind_mono (f := x.1) (q := x.2) (p := p + 1) (fun y hy => ranges_mono hy) h
      · split at h
        · cases h1 : streamR l (p + 1) with
          | none => rw [h1] at h; cases h
          | some y =>
            rw [h1] at h
            simp only [Option.bind_some] at h
            have m1 := stream_mono h1
            cases h2 : numR l y.2 with
            | none => rw [h2] at h; cases h
            | some z =>
              rw [h2] at h
              simp only [Option.bind_some] at h
              have m2 := num_mono h2
              have := bind_mono (f := x.1) (q := x.2) (p := z.2) (fun y hy => Nat.le_of_lt (num_mono hy)) h
              omega
        · split at h
          · cases h1 : streamR l (p + 1) with
            | none => rw [h1] at h; cases h
            | some y =>
              rw [h1] at h
              simp only [Option.bind_some] at h
              have m1 := stream_mono h1
              cases h2 : numR l y.2 with
              | none => rw [h2] at h; cases h
              | some z =>
                rw [h2] at h
                simp only [Option.bind_some] at h
                have m2 := num_mono h2
                have := bind_mono (f := x.1) (q := x.2) (p := z.2) (fun y hy => text_mono hy) h
                omega
          · split at h
            · exact bind_mono (f := x.1) (q := x.2) (p := p + 1) (fun y hy => Nat.le_of_lt (num_mono hy)) h
            · cases h
theorem wpList_appendF {w : World} {ops : Array Oper} {rest : List Oper} {o : Oper} {a : Act} {Q : Exit → Act → World → Prop} (hgd : o.guard = none) (s x : Operand)
    (ho : o.op = .call { callee := .builtin .append, args := #[s, x], argTypes := #[22, 22] })
    (base : Nat) (v : Value) (l : List Itm) (hs : a.eval s = v) (hown : OwnF w base v l) (b c : Nat) (it : Itm) (hit : FrV w it.1 it.2) (hxn : it.1.ranges ≠ [] → ∀ y n c, it.2 = .slice (some y) n c → base ≤ y.block ∧ v.ownBlock ≠ some y.block) (hone : it.2.oneCell' = true) (hx : a.eval x = .slice (some ⟨b, 0, none⟩) 1 c) (h0 : w.rangeAt b 0 (fcs it.1 it.2)) (hlen : l.length ≤ 100000000) (hbase : base ≤ w.heap.size)
    (h : ∀ a' n' cap' w', OwnF w' base (.slice a' n' cap') (l ++ [it]) → w.grownBy w' v.ownBlock → ((Value.slice a' n' cap').ownBlock = v.ownBlock ∨ (Value.slice a' n' cap').ownBlock = some w.heap.size) →
      wpList Tryd.prog ops Q rest (a.put o.dst (.slice a' n' cap')) w') : wpList Tryd.prog ops Q (o :: rest) a w :=
  wpList_plain hgd fun _ hK => by
    obtain ⟨a', n', cap', w', hr2, h2, h3, h4⟩ := run_appendF (w := w) o.type base v l hown b c it hit hxn hone h0 hlen hbase
    unfold Oper.wp execOp
    simp only [ho, resolve, invoke, builtin, Sem.run_bind, Sem.run_pure, Result.andThen_ok, List.map_toArray, List.map_cons, List.map_nil, hs, hx, hr2]
    exact hK _ _ (h a' n' cap' w' h2 h3 h4)
set_option maxRecDepth 100000 in
set_option maxHeartbeats 4000000 in
theorem refDecode_nil (w : World) (a : Option Addr) (n cap : Nat) (hb : BSv w a n cap []) :
    Calls Tryd.prog 9 #[.slice a n cap] w (RDec w []) := by
  have hn : n = 0 := hb.2.1
  subst hn
  clear hb
  go_enter Tryd.func9, Tryd.ntmps9
  go_wp2_with fail
  go_ret3
  exact ⟨World.grownBy_alloc _ _ _, .inr ⟨0, by simp [decR], rfl⟩⟩
set_option maxRecDepth 100000 in
set_option maxHeartbeats 4000000 in
theorem refDecode_some (w : World) (bb o n cap : Nat) (l : List Int) (hb : BSv w (some ⟨bb, o, none⟩) n cap l) (h0 : 0 < l.length) (hl : l.length ≤ 100000000) :
    Calls Tryd.prog 9 #[.slice (some ⟨bb, o, none⟩) n cap] w (RDec w l) := by
  have hn : n = l.length := hb.2.1
  have e0 : ((n : Int) == 0) = false := by simp; omega
  have hbl : bb < w.heap.size := by
    obtain ⟨b1, o1, e1, h1⟩ := bs_one hb (by omega)
    cases e1
    exact World.block_lt_of_cell? w _ (h1 0 (by omega))
  obtain ⟨W1, hW1⟩ : ∃ W, W = w.alloc (.cells #[.slice (some ⟨bb, o, none⟩) n cap, .int .i64 0, .bool false] 65) := ⟨_, rfl⟩
  have g1 : w.grownBy W1 none := by rw [hW1]; exact World.grownBy_alloc _ _ _
  have hX1 : RfS W1 w.heap.size (.slice (some ⟨bb, o, none⟩) n cap) 0 false := by rw [hW1]; exact heap_alloc_new _ _
  have hs1 : W1.heap.size = w.heap.size + 1 := by rw [hW1]; simp
  have hdec : decR l = decF l (l.length + 1) 0 [] := by unfold decR; rw [if_neg (by omega)]
  obtain ⟨X, hXe⟩ : ∃ X, X = w.heap.size := ⟨_, rfl⟩
  rw [← hXe] at hX1
  replace hn := hide hn
  replace hdec := hide hdec
  go_enter Tryd.func9, Tryd.ntmps9
  go_wp2_with fail
  rw [← hW1]
  simp only [← hXe]
  replace hXe := hide hXe
  replace hW1 := hide hW1
  go_loopg [6] l.length (fun gh v wr => ∃ (q k : Nat) (its : List Itm) (a : Option Addr) (m c : Nat), gh = l.length - q ∧ v = .slice a m c ∧ q ≤ l.length ∧ its.length ≤ q ∧ RfS wr X (.slice (some ⟨bb, o, none⟩) n cap) q false ∧ OwnF wr W1.heap.size (.slice a m c) its ∧ W1.grownBy wr (some X) ∧ decR l = decF l k q (its.map (·.1)) ∧ l.length - q < k)
  case atStart => exact ⟨0, l.length + 1, [], none, 0, 0, by omega, rfl, by omega, by simp, hX1, OwnF.nil _ _, World.grownBy.refl _ _, unhide hdec, by omega⟩
  case round =>
    obtain ⟨q, k, its, a, m, c, rfl, rfl, hq, hit, hXr, hOr, gr, hdr, hk⟩ := hrel
    obtain ⟨y0, y1, y2, yf⟩ := cells3 hXr
    have gwr : w.grownBy wr none := gb_trans' g1 gr (fun j e => .inl (by cases e; have := unhide hXe; omega))
    have hXb : bb ≠ X := by have := unhide hXe; omega
    obtain ⟨k', rfl⟩ : ∃ k', k = k' + 1 := ⟨k - 1, by omega⟩
    by_cases hlt : q < l.length
    · have hqn : (q : Int) < (n : Int) := by have := unhide hn; omega
      have e1 : decide ((q : Int) < (n : Int)) = true := decide_eq_true hqn
      have e1n : decide (q < n) = true := decide_eq_true (by omega)
      have hF := fun m => rFrame_any X bb o n cap l q (wr.drewN m) ⟨hXr, (hb.gb0 gwr).gb0 (gb_drewN (World.grownBy.refl _ _) _), hXb, hq, hl⟩ hlt
      have hsz := gr.size
      replace hXr := hide hXr
      replace hOr := hide hOr
      replace hdr := hide hdr
      replace hF := hide hF
      go_wp2_with fail
      go_quiet (fail)
      go_wp2_with fail
      refine (unhide hF _).mono ?_
      rintro e w5 ⟨g5, ⟨⟨kd, sm, of, cd, fin, d, rg⟩, q', A, NN, C, hfr, rfl, hv5, hn5, hX5, hq5⟩ | ⟨hfr, q', k0, k1, k2, k3, k4, k5, A, NN, C, rfl, hX5, hq5⟩⟩
      · have g5' : wr.grownBy w5 (some X) := gb_trans' (gb_none (gb_drewN (World.grownBy.refl wr none) _) (some X)) g5 (fun j e => .inr rfl)
        have hO5 := (unhide hOr).gb g5' (fun j e => by cases e; have := unhide hXe; omega)
        have hmono : q < q' := by
          have h2 := hfr
          unfold frameR at h2
          cases hrw : rawR l (l.getD q 0) (q + 1) with
          | none => rw [hrw] at h2; cases h2
          | some x =>
            rw [hrw] at h2
            simp only [Option.bind_some] at h2
            split at h2
            · cases h2
              exact raw_mono hrw
            · cases h2
        have hdr2 : decR l = decF l k' q' (its.map (·.1) ++ [⟨kd, sm, of, cd, fin, d, rg⟩]) := by
          rw [unhide hdr]
          simp only [decF]
          rw [if_pos hlt, hfr]
        obtain ⟨z0, z1, z2, zf⟩ := cells3 hX5
        have hX5l := hX5.lt
        replace hfr := hide hfr
        replace hdr2 := hide hdr2
        replace hX5 := hide hX5
        have hon : (⟨kd, sm, of, cd, fin, d, rg⟩ : Fr).ranges ≠ [] → ∀ y n c', Value.slice A NN C = .slice (some y) n c' → W1.heap.size ≤ y.block ∧ (Value.slice a m c).ownBlock ≠ some y.block := fun _ y n' c' e => by
          cases e
          have h1 := hn5 y rfl
          have h2 : (wr.drewN nq).heap.size = wr.heap.size := rfl
          exact ⟨by omega, fun e2 => by have := ((unhide hOr).lt _ e2).2; omega⟩
        have gal : w5.grownBy ((w5.alloc (.cells #[.int .i64 kd, .int .i64 sm, .int .u64 of, .int .u64 cd, .bool fin, .string d, .slice A NN C] 46)).alloc (.cells #[.int .i64 kd, .int .i64 sm, .int .u64 of, .int .u64 cd, .bool fin, .string d, .slice A NN C] 46)) none := gb_alloc (World.grownBy_alloc _ _ _) _
        have hv6 := hide (hv5.gb0 gal)
        have hO6 := hide (hO5.gb gal (fun k e => by cases e))
        have hbox := heap_alloc_new (w5.alloc (.cells #[.int .i64 kd, .int .i64 sm, .int .u64 of, .int .u64 cd, .bool fin, .string d, .slice A NN C] 46)) (.cells #[.int .i64 kd, .int .i64 sm, .int .u64 of, .int .u64 cd, .bool fin, .string d, .slice A NN C] 46)
        rw [World.size_alloc] at hbox
        have hbox2 : Hid (((w5.alloc (.cells #[.int .i64 kd, .int .i64 sm, .int .u64 of, .int .u64 cd, .bool fin, .string d, .slice A NN C] 46)).alloc (.cells #[.int .i64 kd, .int .i64 sm, .int .u64 of, .int .u64 cd, .bool fin, .string d, .slice A NN C] 46)).rangeAt (w5.heap.size + 1) 0 (fcs ⟨kd, sm, of, cd, fin, d, rg⟩ (.slice A NN C))) := hide (range_block hbox)
        have hs5 := g5'.size
        replace hon := hide hon
        replace hbox := hide hbox
        simp only [frA]
        go_wp2_with (at_builtin; refine wpList_appendF (by rfl) _ _ (by rfl) W1.heap.size _ its (by rfl) (unhide hO6) (w5.heap.size + 1) 1 (⟨kd, sm, of, cd, fin, d, rg⟩, .slice A NN C) (unhide hv6) (unhide hon) (by rfl) (by rfl) (unhide hbox2) (by omega) (by simp; omega) ?_; intro a7 n7 c7 w7 o7 g7 b7)
        go_roundg (l.length - q')
        case measure => omega
        case rel =>
          refine ⟨q', k', its ++ [(⟨kd, sm, of, cd, fin, d, rg⟩, .slice A NN C)], a7, n7, c7, rfl, rfl, hq5, by simp; omega, ?_, o7, ?_, by rw [unhide hdr2]; simp, by omega⟩
          · exact ((unhide hX5).gb gal (by simp)).gb g7 (fun e => by have := ((unhide hO6).lt X e).1; have := unhide hXe; omega)
          · exact gb_trans' (gb_trans' (gb_trans gr g5') gal (fun j e => by cases e)) g7 (fun j e => .inl ((unhide hO6).lt j e).1)
      · have hdr2 : decR l = (none, (q : Int)) := by
          rw [unhide hdr]
          simp only [decF]
          rw [if_pos hlt, hfr]
        have g5' : wr.grownBy w5 (some X) := gb_trans' (gb_none (gb_drewN (World.grownBy.refl wr none) _) (some X)) g5 (fun j e => .inr rfl)
        obtain ⟨z0, z1, z2, zf⟩ := cells3 hX5
        have hX5l := hX5.lt
        replace hdr2 := hide hdr2
        replace hfr := hide hfr
        go_wp2_with fail
        go_ret3
        exact ⟨gb_alloc (gb_trans' gwr g5' (fun j e => .inl (by cases e; have := unhide hXe; omega))) _, .inr ⟨q, unhide hdr2, rfl⟩⟩
    · obtain rfl : q = l.length := by omega
      have e1 : decide ((l.length : Int) < (n : Int)) = false := decide_eq_false (by have := unhide hn; omega)
      have e1n : decide (l.length < n) = false := decide_eq_false (by have := unhide hn; omega)
      have hdr2 : decR l = (some (its.map (·.1)), -1) := by
        rw [hdr]
        simp only [decF]
        rw [if_neg (by omega)]
      replace hdr2 := hide hdr2
      replace hdr := hide hdr
      replace hOr := hide hOr
      go_wp2_with fail
      go_quiet (fail)
      go_wp2_with fail
      go_ret3
      exact ⟨gb_drewN gwr _, .inl ⟨its, a, m, c, unhide hdr2, rfl, ((unhide hOr).gb (gb_drewN (World.grownBy.refl _ none) _) (fun k e => by cases e)).lower g1.size⟩⟩
end Go.Proofs.YtjnmokmchdfchaaDoor
