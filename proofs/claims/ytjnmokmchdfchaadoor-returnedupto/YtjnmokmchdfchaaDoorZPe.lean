import Derived.Test.YtjnmokmchdfchaaDoorZPf
namespace Go.Proofs.YtjnmokmchdfchaaDoor
open Go.RowKit
attribute [local go_sem ↓] Go.wp_at_zero Go.wp_at_succ

theorem OwnR.nil (w : World) (base : Nat) : OwnR w base (.slice none 0 0) [] := ⟨fun x hx => by simp at hx, World.ownsRow_nil _ _ _ _⟩
theorem run_cloneR {w : World} (ty : TypeId) (ax : Option Addr) (nx cx : Nat) (m : List Rg) (hm : RSv w ax nx cx m) (hlen : m.length ≤ 100000000) :
    ∃ a' n' cap' w', (Builtin.append_ #[44, 44] ty #[.slice none 0 0, .slice ax nx cx]).run Tryd.prog w = .ok (.slice a' n' cap') w' ∧ OwnR w' w.heap.size (.slice a' n' cap') m ∧ w.grownBy w' none := by
  obtain ⟨i0, hi, hz0, hz1, hz2⟩ := info_parts Tryd.infoR
  obtain ⟨m1, rfl, m3, m4, m5⟩ := hm
  have hown := OwnR.nil w w.heap.size
  rcases m5 with rfl | ⟨b, off, rfl, m5⟩
  · have : m = [] := List.eq_nil_of_length_eq_zero (by omega)
    subst this
    rcases ax with _ | x
    · have hr := run_append_owned_none (P := Tryd.prog) (w := w) w.heap.size 44 ty 54 i0 2 Tryd.underlying44 hi (.slice none 0 0) _ _ hown.2
      exact ⟨_, _, _, w, hr, hown, World.grownBy.refl _ _⟩
    · obtain ⟨v', w', hr2, h2, h3, _, h4⟩ := run_append_own_at (P := Tryd.prog) w w.heap.size 44 ty 54 i0 (.agg #[.int .u64 0, .int .u64 0]) 2 16 Tryd.underlying44 hi hz0 hz1 hz2 rfl (by decide) (.slice none 0 0) 0 [] hown.2 x 0 0 [] rfl (fun j u hj => by simp at hj) (fun u hu => by simp at hu) (by simp [maxLen]) (by omega) (Nat.le_refl _)
      have hO : OwnR w' w.heap.size v' [] := ⟨m1, by simpa [rcs] using h2⟩
      obtain ⟨-, -, ⟨rfl, e2⟩ | ⟨g, cap, cur, rfl, _⟩⟩ := id hO
      · exact ⟨_, _, _, w', hr2, hO, h3⟩
      · exact ⟨_, _, _, w', hr2, hO, h3⟩
  · obtain ⟨v', w', hr2, h2, h3, _, h4⟩ := run_append_own_at (P := Tryd.prog) w w.heap.size 44 ty 54 i0 (.agg #[.int .u64 0, .int .u64 0]) 2 16 Tryd.underlying44 hi hz0 hz1 hz2 rfl (by decide) (.slice none 0 0) 0 [] hown.2 ⟨b, off, none⟩ m.length cx (rcs m) (rcs_len m) (by
        intro j u hj
        rw [Addr.add_mid]
        exact m5 j u hj) (by
        intro u hu
        simp only [rcs, List.mem_flatMap, List.mem_cons, List.not_mem_nil, or_false] at hu
        obtain ⟨y, -, rfl | rfl⟩ := hu <;> rfl) (by simp [maxLen]; omega) (by omega) (Nat.le_refl _)
    have hO : OwnR w' w.heap.size v' m := ⟨m1, by simpa using h2⟩
    obtain ⟨-, -, ⟨rfl, e2⟩ | ⟨g, cap, cur, rfl, _⟩⟩ := id hO
    · exact ⟨_, _, _, w', hr2, hO, h3⟩
    · exact ⟨_, _, _, w', hr2, hO, h3⟩
theorem wpList_cloneR {w : World} {ops : Array Oper} {rest : List Oper} {o : Oper} {a : Act} {Q : Exit → Act → World → Prop} (hgd : o.guard = none) (x : Operand)
    (ho : o.op = .call { callee := .builtin .append, args := #[.const (.slice none 0 0), x], argTypes := #[44, 44] })
    (ax : Option Addr) (nx cx : Nat) (m : List Rg) (hx : a.eval x = .slice ax nx cx) (hm : RSv w ax nx cx m) (hlen : m.length ≤ 100000000)
    (h : ∀ a' n' cap' w', OwnR w' w.heap.size (.slice a' n' cap') m → w.grownBy w' none → wpList Tryd.prog ops Q rest (a.put o.dst (.slice a' n' cap')) w') : wpList Tryd.prog ops Q (o :: rest) a w :=
  wpList_plain hgd fun _ hK => by
    obtain ⟨a', n', cap', w', hr2, h2, h3⟩ := run_cloneR (w := w) o.type ax nx cx m hm hlen
    have hs : a.eval (.const (.slice none 0 0)) = .slice none 0 0 := rfl
    unfold Oper.wp execOp
    simp only [ho, resolve, invoke, builtin, Sem.run_bind, Sem.run_pure, Result.andThen_ok, List.map_toArray, List.map_cons, List.map_nil, hs, hx, hr2]
    exact hK _ _ (h a' n' cap' w' h2 h3)
theorem OwnR.lower {w : World} {b1 b2 : Nat} {v : Value} {l : List Rg} (h : OwnR w b1 v l) (hb : b2 ≤ b1) : OwnR w b2 v l := by
  obtain ⟨h1, h2, h3⟩ := h
  refine ⟨h1, h2, ?_⟩
  rcases h3 with h3 | ⟨g, cap, cur, e1, e2, e3⟩
  · exact .inl h3
  · exact .inr ⟨g, cap, cur, e1, by omega, e3⟩
theorem one_rg : (#[Value.int .u64 7, .int .u64 7] : Array Value).all (·.oneCell') = true :=
  all_oneCell_toArray (cs := [Value.int .u64 7, .int .u64 7]) (fun v hv => by
    simp only [List.mem_cons, List.not_mem_nil, or_false] at hv
    rcases hv with rfl | rfl <;> rfl)
theorem one_fr : (#[Value.int .i64 2, .int .i64 0, .int .u64 0, .int .u64 0, .bool false, .string ByteArray.empty, .slice none 0 0] : Array Value).all (·.oneCell') = true :=
  all_oneCell_toArray (cs := [Value.int .i64 2, .int .i64 0, .int .u64 0, .int .u64 0, .bool false, .string ByteArray.empty, .slice none 0 0]) (fun v hv => by
    simp only [List.mem_cons, List.not_mem_nil, or_false] at hv
    rcases hv with rfl | rfl | rfl | rfl | rfl | rfl | rfl <;> rfl)
theorem info_rg : (Tryd.prog.info? 54).map (·.size) = some 2 := by kernel_rfl
theorem itemsKept {w W w' : World} {B : Nat} {v : Value} {its : List Itm} (hO : OwnF w B v its) (hR : ∀ x ∈ its, x.1.ranges ≠ [] → OwnR w B x.2 x.1.ranges) (g : w.grownBy W none) (g7 : W.grownBy w' v.ownBlock) : ∀ x ∈ its, x.1.ranges ≠ [] → OwnR w' B x.2 x.1.ranges := by
  intro x hx hne
  have h1 := (hR x hx hne).gb0 g
  refine h1.gb g7 ?_
  obtain ⟨-, -, ⟨e, -⟩ | ⟨y, cap, cur, e, -⟩⟩ := id h1
  · left; rw [e]; rfl
  · right
    rw [e]
    exact fun e2 => ((hO.2 x hx).2 hne _ _ _ e).2 e2.symm
theorem keepH {W W' : World} {i : Nat} {o : Obj} (h : W.heap[i]? = some o) (g : W.grownBy W' none) : W'.heap[i]? = some o := (g.block i (Array.getElem?_eq_some_iff.1 h).1 (by simp)).trans h
theorem frzH {w : World} {b : Nat} {cs : Array Value} {t : TypeId} (h : w.heap[b]? = some (.cells cs t (0, 0))) : ∀ o, w.frozen? ⟨b, o, none⟩ = false := fun o => by simp [World.frozen?, h]
set_option maxRecDepth 100000 in
set_option maxHeartbeats 4000000 in
theorem plainEncode_any (w : World) (a : Option Addr) (n cap : Nat) (fs : List Fr) (h : FSv w a n cap fs) (hbk : bulkL fs ≤ 30000000) (hfl : fs.length ≤ 1000000) (hL : Laid w) :
    Calls Tryd.prog 6 #[.slice a n cap] w (EncAns w fs (.tuple #[.slice none 0 0, .int .i64 5]) (fun v => .tuple #[v, .int .i64 0])) := by
  have hn := h.1
  have hcap := h.2.1
  have hmax := h.2.2.1
  unfold maxLen at hmax
  have hn6 : n ≤ 1000000 := by omega
  replace hn := hide hn
  obtain ⟨R, hR⟩ : ∃ R, R = EncAns w fs (.tuple #[.slice none 0 0, .int .i64 5]) (fun v => .tuple #[v, .int .i64 0]) := ⟨_, rfl⟩
  rw [← hR]
  replace hR := hide hR
  have hL0 := hide hL
  have hLt := hL.lt
  clear hL
  go_enter Tryd.func6, Tryd.ntmps6
  go_wp2_with fail
  go_loopw [4, 13] (fun v i wr => ∃ (k : Nat) (its : List Itm) (a' : Option Addr) (n' c' : Nat), k ≤ n ∧ i = .int .i64 (k : Int) ∧ v = .slice a' n' c' ∧ its.map (·.1) = fs.take k ∧ OwnF wr w.heap.size v its ∧ (∀ x ∈ its, x.1.ranges ≠ [] → OwnR wr w.heap.size x.2 x.1.ranges) ∧ w.grownBy wr none) (fun _ i _ => n - (intOf i).toNat)
  case atStart => exact ⟨0, [], none, 0, 0, by omega, rfl, rfl, by simp, OwnF.nil _ _, fun x hx => by simp at hx, World.grownBy.refl _ _⟩
  case round =>
    obtain ⟨k, its, a', n', c', hk, rfl, rfl, hit, hO, hRs, g1⟩ := hrel
    by_cases hlt : k < n
    · have h1 := h.gb0 g1
      obtain ⟨b, o, rfl⟩ : ∃ b o, a = some ⟨b, o, none⟩ := by
        obtain ⟨-, -, -, ⟨rfl, hc⟩ | ⟨b, o, rfl, -⟩⟩ := h
        · omega
        · exact ⟨b, o, rfl⟩
      obtain ⟨rv, hfv, hrg⟩ := h1.at k (by have := unhide hn; omega)
      have hbj := bulk_at (l := fs) (j := k) (by have := unhide hn; omega)
      have htk : fs.take (k + 1) = fs.take k ++ [frAt fs k] := by rw [List.take_succ_eq_append_getElem (by have := unhide hn; omega), frAt_eq (by have := unhide hn; omega)]
      have hil : its.length = k := by
        have h9 := congrArg List.length hit
        rw [List.length_map, List.length_take] at h9
        have := unhide hn
        omega
      generalize hfe : frAt fs k = f at *
      obtain ⟨kd, sm, of, cd, fin, d, rg⟩ := f
      obtain ⟨hf1, hf2, ra, rc, rfl, hrs⟩ := hfv
      have hrl : rg.length ≤ 100000000 := by simp only [bulkF] at hbj; omega
      have ga : wr.grownBy (wr.alloc (.cells #[.int .i64 kd, .int .i64 sm, .int .u64 of, .int .u64 cd, .bool fin, .string d, .slice ra rg.length rc] 46)) none := World.grownBy_alloc _ _ _
      have hrs2 := hide (hrs.gb0 ga)
      have hbox := heap_alloc_new wr (.cells #[.int .i64 kd, .int .i64 sm, .int .u64 of, .int .u64 cd, .bool fin, .string d, .slice ra rg.length rc] 46)
      replace hbox := hide hbox
      replace hfe := hide hfe
      replace htk := hide htk
      replace hbj := hide hbj
      replace hit := hide hit
      replace hO := hide hO
      replace hRs := hide hRs
      replace hrs := hide hrs
      replace hf1 := hide hf1
      replace hrg := hide hrg
      replace h := hide h
      replace h1 := hide h1
      have i1 : (0 : Int) ≤ (k : Int) := by omega
      have i2 : (k : Int) < (n : Int) := by omega
      have hif := hide info_fr
      go_upto_region 6 with (first | (refine wpList_load_mid (by rfl) 46 _ (by rfl) b (o + k * 7) (by rfl) (fcs ⟨kd, sm, of, cd, fin, d, rg⟩ (.slice ra rg.length rc)) _ (unhide hrg) Tryd.underlying46 (by rfl) (unhide hif) ?_; simp only [fcs]) | (at_builtin; refine wpList_cloneR (by rfl) _ (by rfl) _ _ _ rg (by rfl) (unhide hrs2) (by omega) ?_; intro a3 n3 c3 w3 o3 g3; have hX3 := keepH (unhide hbox) g3; have z3 := frzH hX3; have y3 := (cells7 hX3).2.2.2.2.2.2; replace hX3 := hide hX3; replace o3 := hide o3))
      have g3s : w3.grownBy (w3.setCell ⟨wr.heap.size, 6, none⟩ (.slice a3 n3 c3)) (some wr.heap.size) := gb_set (World.grownBy.refl _ _) _ _ (.inr rfl)
      have hX4 := heap_set (o := 6) (unhide hX3) (.slice a3 n3 c3)
      have hne3 : (Value.slice a3 n3 c3).ownBlock = none ∨ (Value.slice a3 n3 c3).ownBlock ≠ some wr.heap.size := .inr (fun e => by have h9 := ((unhide o3).lt _ e).1; rw [World.size_alloc] at h9; omega)
      have o4 := (unhide o3).gb g3s hne3
      have g14 : wr.grownBy (w3.setCell ⟨wr.heap.size, 6, none⟩ (.slice a3 n3 c3)) none := gb_set (gb_trans ga g3) _ _ (.inl (Nat.le_refl _))
      simp only [List.setIfInBounds_toArray, List.set_cons_succ, List.set_cons_zero] at hX4
      have hs3 : wr.heap.size + 1 ≤ w3.heap.size := by have := g3.size; simpa using this
      obtain ⟨w4, hw4⟩ : ∃ x, x = w3.setCell ⟨wr.heap.size, 6, none⟩ (.slice a3 n3 c3) := ⟨_, rfl⟩
      rw [← hw4] at hX4 o4 g14 ⊢
      replace hw4 := hide hw4
      have hn3 : n3 = rg.length := o4.rsv.1.2.1
      subst hn3
      have hfr4 : FrV w4 ⟨kd, sm, of, cd, fin, d, rg⟩ (.slice a3 rg.length c3) := ⟨unhide hf1, hf2, a3, c3, rfl, o4.rsv.1⟩
      have hon : (⟨kd, sm, of, cd, fin, d, rg⟩ : Fr).ranges ≠ [] → ∀ y n c, Value.slice a3 rg.length c3 = .slice (some y) n c → w.heap.size ≤ y.block ∧ (Value.slice a' n' c').ownBlock ≠ some y.block := fun _ y n5 c5 e => by
        cases e
        have h8 := o4.rsv.2 y rfl
        have h7 := g1.size
        simp at h8
        exact ⟨by omega, fun e2 => by have := ((unhide hO).lt _ e2).2; omega⟩
      have gal : w4.grownBy (w4.alloc (.cells #[.int .i64 kd, .int .i64 sm, .int .u64 of, .int .u64 cd, .bool fin, .string d, .slice a3 rg.length c3] 46)) none := World.grownBy_alloc _ _ _
      have hv5 := hide (hfr4.gb0 gal)
      have hO5 := hide (((unhide hO).gb g14 (fun k e => by cases e)).gb gal (fun k e => by cases e))
      have hbx := hide (range_block (cs := fcs ⟨kd, sm, of, cd, fin, d, rg⟩ (.slice a3 rg.length c3)) (heap_alloc_new w4 (.cells #[.int .i64 kd, .int .i64 sm, .int .u64 of, .int .u64 cd, .bool fin, .string d, .slice a3 rg.length c3] 46)))
      have hr4 := hide (range_block (cs := fcs ⟨kd, sm, of, cd, fin, d, rg⟩ (.slice a3 rg.length c3)) hX4)
      have hs14 := g14.size
      have hs1 := g1.size
      replace hX4 := hide hX4
      replace o4 := hide o4
      replace hon := hide hon
      replace hfr4 := hide hfr4
      replace o3 := hide (unhide o3)
      clear y3 z3
      go_wp2_with (first | (refine wpList_load_mid (by rfl) 46 _ (by rfl) wr.heap.size 0 (by rfl) (fcs ⟨kd, sm, of, cd, fin, d, rg⟩ (.slice a3 rg.length c3)) _ (unhide hr4) Tryd.underlying46 (by rfl) (unhide hif) ?_; simp only [fcs]) | (at_builtin; refine wpList_appendF (by rfl) _ _ (by rfl) w.heap.size _ its (by rfl) (unhide hO5) w4.heap.size 1 (⟨kd, sm, of, cd, fin, d, rg⟩, .slice a3 rg.length c3) (unhide hv5) (unhide hon) (by rfl) (by rfl) (unhide hbx) (by omega) (by simp; omega) ?_; intro a7 n7 c7 w7 o7 g7 b7))
      go_roundw
      case rel =>
        refine ⟨k + 1, its ++ [(⟨kd, sm, of, cd, fin, d, rg⟩, .slice a3 rg.length c3)], a7, n7, c7, by omega, by simp, rfl, ?_, o7, ?_, ?_⟩
        · rw [List.map_append, unhide hit, unhide htk]
          simp
        · intro x hx hne
          rcases List.mem_append.1 hx with hx | hx
          · exact itemsKept (unhide hO) (unhide hRs) (gb_trans g14 gal) g7 x hx hne
          · rw [List.mem_singleton.1 hx]
            refine (((unhide o4).lower (by simp; omega)).gb0 gal).gb g7 (.inr (fun e => ?_))
            rw [List.mem_singleton.1 hx] at hne
            obtain ⟨y, e5⟩ : ∃ y, a3 = some y := by
              cases a3 with
              | none =>
                obtain ⟨-, -, h3, -, ⟨-, h5⟩ | ⟨b5, o5, h5, -⟩⟩ := (unhide o4).rsv.1
                · exact absurd (List.eq_nil_of_length_eq_zero (l := rg) (by omega)) hne
                · cases h5
              | some y => exact ⟨y, rfl⟩
            subst e5
            exact (unhide hon hne y _ _ rfl).2 e.symm
        · exact gb_trans' (gb_trans (gb_trans g1 g14) gal) g7 (fun j e => .inl ((unhide hO5).lt j e).1)
      case measure => simp [intOf]; omega
    · obtain rfl : k = n := by omega
      have hfs : its.map (·.1) = fs := by rw [hit, List.take_of_length_le (by have := unhide hn; omega)]
      obtain ⟨w1, rfl⟩ : ∃ x, x = wr := ⟨_, rfl⟩
      have hE := sEncode_any w1 a' n' c' fs (by rw [← hfs]; exact hO.fsv) hbk
      have hil : its.length = n' := by have := hO.fsv.1; simpa using this.symm
      replace hE := hide hE
      replace hO := hide hO
      replace hRs := hide hRs
      replace hit := hide hit
      replace hfs := hide hfs
      replace h := hide h
      go_wp2_with fail
      refine (unhide hE).mono ?_
      intro e w2 hans
      obtain ⟨bv, ev, rfl, hA⟩ : ∃ bv ev, e = .returned (.tuple #[bv, ev]) ∧ ((ev = .nilIface ∧ EncOk fs ∧ (∃ a5 n5 c5, bv = .slice a5 n5 c5) ∧ OwnB w2 w1.heap.size bv (encL fs)) ∨ (ev = .iface 24 (.int .i64 5) ∧ bv = .slice none 0 0 ∧ ¬ EncOk fs)) := by
        obtain ⟨⟨hk, a5, n5, c5, rfl, ho⟩ | ⟨hk, rfl⟩, -⟩ := hans
        · exact ⟨_, _, rfl, .inl ⟨rfl, hk, ⟨_, _, _, rfl⟩, ho⟩⟩
        · exact ⟨_, _, rfl, .inr ⟨rfl, rfl, hk⟩⟩
      have g2 : w1.grownBy w2 none := hans.2
      obtain ⟨g, hg, hC⟩ := Cop.start (unhide hO) (unhide hRs) g2
      have hfx : ∀ x ∈ its, ∃ ra rc, x.2 = .slice ra x.1.ranges.length rc := fun x hx => by
        obtain ⟨-, -, ra, rc, e, -⟩ := ((unhide hO).2 x hx).1
        exact ⟨ra, rc, e⟩
      have hin : n' ≤ 1000000 := by
        have h9 := congrArg List.length (unhide hfs)
        rw [List.length_map] at h9
        omega
      replace hA := hide hA
      replace hfx := hide hfx
      replace hg := hide hg
      clear hans hE
      go_wp2_with fail
      go_loopw [33] (fun i wz => ∃ q : Nat, q ≤ n' ∧ i = .int .i64 (q : Int) ∧ Cop w.heap.size w1.heap.size g its w2 q wz) (fun i _ => n' - (intOf i).toNat)
      case atStart => exact ⟨0, by omega, rfl, hC⟩
      case round =>
        obtain ⟨q, hq, rfl, hCq⟩ := hrel
        obtain ⟨w5, rfl⟩ : ∃ x, x = wr := ⟨_, rfl⟩
        by_cases hlt2 : q < n'
        · obtain ⟨rfl, hg0, hg1⟩ := unhide hg (by omega)
          obtain ⟨ra, rc, hx2⟩ := unhide hfx its[q] (List.getElem_mem _)
          have hcl := hCq.row q (by omega) (Nat.le_refl _) 0 its[q].2 rfl
          simp only [Nat.add_zero] at hcl
          rw [hx2] at hcl
          have i1 : (0 : Int) ≤ (q : Int) := by omega
          have i2 : (q : Int) < (n' : Int) := by omega
          obtain ⟨m, hm⟩ : ∃ m, m = its[q].1.ranges.length := ⟨_, rfl⟩
          rw [← hm] at hcl hx2
          have hml : m ≤ 100000000 := by
            have hq9 : q < (its.map (·.1)).length := by rw [List.length_map]; omega
            have h9 := bulk_at hq9
            rw [frAt_eq hq9, List.getElem_map] at h9
            have h8 : bulkL (its.map (·.1)) ≤ 30000000 := by rw [unhide hfs]; exact hbk
            simp only [bulkF] at h9
            omega
          replace hx2 := hide hx2
          replace hm := hide hm
          replace hCq := hide hCq
          replace hC := hide hC
          go_wp2_with fail
          go_loopw [42] (fun i wz => ∃ p : Nat, p ≤ m ∧ i = .int .i64 (p : Int) ∧ Cop w.heap.size w1.heap.size g its w2 q wz) (fun i _ => m - (intOf i).toNat)
          case atStart => exact ⟨0, by omega, rfl, unhide hCq⟩
          case round =>
            obtain ⟨p, hp, rfl, hCp⟩ := hrel
            have hcl2 : wr.cell? ⟨g, q * 7 + 6, none⟩ = some (.slice ra m rc) := by
              have h9 := hCp.row q (by omega) (Nat.le_refl _) 0 its[q].2 rfl
              simp only [Nat.add_zero] at h9
              rw [unhide hx2] at h9
              exact h9
            by_cases hlt3 : p < m
            · have hne : its[q].1.ranges ≠ [] := fun e => by
                have h9 := unhide hm
                rw [e, List.length_nil] at h9
                omega
              obtain ⟨y, c, ex, hy0, hy1, hyg, hmc, hyt⟩ := hCp.rgs its[q] (List.getElem_mem _) hne
              rw [← unhide hm] at ex hmc hyt
              have e3 := (unhide hx2).symm.trans ex
              cases e3
              have hty := hide (there_sub (o := p * 2) (n := 2) hyt (by omega))
              have hCn := hCp.setR hy0 hy1 hyg (p * 2) [.int .u64 7, .int .u64 7]
              obtain ⟨W, hW⟩ : ∃ W, W = wr.setCells y (p * 2) [.int .u64 7, .int .u64 7] := ⟨_, rfl⟩
              rw [← hW] at hCn
              replace hW := hide hW
              replace hCn := hide hCn
              have j1 : (0 : Int) ≤ (p : Int) := by omega
              have j2 : (p : Int) < (m : Int) := by omega
              have hir := hide info_rg
              replace hCp := hide hCp
              replace hyt := hide hyt
              replace ex := hide ex
              replace hne := hide hne
              go_wp2_with (refine wpList_store_mid (by rfl) 54 _ _ (by rfl) y (p * 2) #[.int .u64 7, .int .u64 7] (by rfl) (by rfl) (unhide hty) (unhide hir) one_rg ?_; change wpList _ _ _ _ _ (wr.setCells y (p * 2) [.int .u64 7, .int .u64 7]); rw [← unhide hW])
              go_roundw
              case rel => exact ⟨p + 1, by omega, by simp, unhide hCn⟩
              case measure => simp [intOf]; omega
            · obtain rfl : p = m := by omega
              have hty := hide (there_sub (o := q * 7) (n := 7) hCp.ok (by omega))
              have hCn := hCp.setF hg0 hg1 [.int .i64 2, .int .i64 0, .int .u64 0, .int .u64 0, .bool false, .string ByteArray.empty, .slice none 0 0] rfl
              obtain ⟨W, hW⟩ : ∃ W, W = wr.setCells g (q * 7) [.int .i64 2, .int .i64 0, .int .u64 0, .int .u64 0, .bool false, .string ByteArray.empty, .slice none 0 0] := ⟨_, rfl⟩
              rw [← hW] at hCn
              replace hW := hide hW
              replace hCn := hide hCn
              have hir := hide info_fr
              replace hCp := hide hCp
              go_wp2_with (refine wpList_store_mid (by rfl) 46 _ _ (by rfl) g (q * 7) #[.int .i64 2, .int .i64 0, .int .u64 0, .int .u64 0, .bool false, .string ByteArray.empty, .slice none 0 0] (by rfl) (by rfl) (unhide hty) (unhide hir) one_fr ?_; change wpList _ _ _ _ _ (wr.setCells g (q * 7) [.int .i64 2, .int .i64 0, .int .u64 0, .int .u64 0, .bool false, .string ByteArray.empty, .slice none 0 0]); rw [← unhide hW])
              go_roundw
              case rel => exact ⟨q + 1, by omega, by simp, unhide hCn⟩
              case measure => simp [intOf]; omega
        · obtain rfl : q = n' := by omega
          have gz : w.grownBy w5 none := Scr.gb (gb_trans g1 g2) hCq.scr
          have hLz : Laid w5 := (unhide hL0).gb gz (by simp)
          replace hLz := hide hLz
          obtain ⟨hev, hk, ⟨a5, n5, c5, hbv⟩, ho⟩ | ⟨hev, hbv, hk⟩ := unhide hA
          · have ho5 := hide (hCq.scr.own ho)
            replace hk := hide hk
            replace hCq := hide hCq
            replace hC := hide hC
            subst hev hbv
            clear hA ho
            go_wp2_with fail
            refine (number_nil _).mono ?_
            rintro e w6 ⟨rfl, g6⟩
            go_wp2_with fail
            have hR' := unhide hR
            subst hR'
            exact ⟨.inl ⟨unhide hk, a5, n5, c5, rfl, ((unhide ho5).gb0 g6).lower' g1.size⟩, gb_trans gz g6⟩
          · replace hk := hide hk
            replace hCq := hide hCq
            replace hC := hide hC
            subst hev hbv
            clear hA
            go_wp2_with fail
            refine (number_errno 5 _ (unhide hLz)).mono ?_
            rintro e w6 ⟨rfl, g6⟩
            go_wp2_with fail
            have hR' := unhide hR
            subst hR'
            exact ⟨.inr ⟨unhide hk, rfl⟩, gb_trans gz g6⟩
end Go.Proofs.YtjnmokmchdfchaaDoor
