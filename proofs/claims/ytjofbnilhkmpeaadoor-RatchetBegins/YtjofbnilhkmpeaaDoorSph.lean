import Derived.Test.YtjofbnilhkmpeaaDoorProg
import Derived.WalkKit
import Derived.WalkSpells
import Derived.WalkLawsBesides
import Derived.Lib.QuietBelow
import Derived.BigQuiet
import Derived.OrdersHeld
import Derived.Deep.RegionHeld3
import Derived.OwnWalk
import Derived.Laws.MakeOwn
import Derived.Test.YtjofbnilhkmpeaaDoorKa
import Derived.Test.YtjofbnilhkmpeaaDoorSpg
namespace Go.Proofs.YtjofbnilhkmpeaaDoor
set_option maxRecDepth 100000
open Go Go.RowKit Go.Sort Go.ChangeMaps Go.MapKept
attribute [local go_sem] setCell_drewN alloc_drewN

set_option maxRecDepth 100000 in
set_option maxHeartbeats 4000000 in
theorem a_Put_no (base g b : Nat) (v : Value) (most : Int) (l : List Sr) (q : List Sr) (u : Value) (w : World) (hS : Sto w base g b v most l) (hq0 : SpL w u q) (e0 : Int) (he : pe l q most = e0) (h0 : e0 ≠ 0) : Calls Tryd.prog 34 #[.pointer (some ⟨g, 0, none⟩), u] w fun e w' => e = .returned (.int .i64 e0) ∧ Below w.heap.size w w' := by
  have hql := hq0.len
  have hm0 := hS.most0
  obtain ⟨ao, cap, rfl⟩ := hq0.form
  have cM := a_meets base g b v most l q _ w hS hq0
  unfold pe at he
  cases hm : mts l q
  · rw [hm] at cM
    rw [if_neg (by rw [hm]; decide)] at he
    have hlt : most - l.length < q.length := by
      rcases Int.lt_or_le (most - l.length) q.length with h | h
      · exact h
      · rw [if_neg (by omega)] at he; exact absurd he.symm h0
    rw [if_pos hlt] at he
    subst he
    clear hm
    go_enter Tryd.func34, Tryd.ntmps34
    go_wp2_with (fail)
    refine cM.mono ?_
    rintro e_ w1 ⟨rfl, hb⟩
    replace hS := hS.keep hb
    clear cM
    go_wp2_with (fail)
    refine (a_Room base g b v most l w1 hS).mono ?_
    rintro e_ w2 ⟨rfl, hb2⟩
    replace hb := Below.after hb hb2
    have hd1 : decide ((q.length : Int) > most - l.length) = true := by simp; omega
    go_wp2_with (fail)
    go_ret
    exact ⟨rfl, hb⟩
  · rw [hm] at cM
    rw [if_pos hm] at he
    subst he
    clear hm
    go_enter Tryd.func34, Tryd.ntmps34
    go_wp2_with (fail)
    refine cM.mono ?_
    rintro e_ w1 ⟨rfl, hb⟩
    go_wp2_with (fail)
    go_ret
    exact ⟨rfl, hb⟩
theorem pe_cases (l q : List Sr) (most : Int) : (pe l q most = 0 ∧ mts l q = false ∧ (l.length : Int) + q.length ≤ most) ∨ pe l q most = 121 ∨ pe l q most = 120 := by
  unfold pe
  cases hm : mts l q
  · rw [if_neg (by decide)]
    split
    · exact .inr (.inr rfl)
    · exact .inl ⟨rfl, rfl, by omega⟩
  · exact .inr (.inl rfl)
theorem a_Put (base g b : Nat) (v : Value) (most : Int) (l : List Sr) (q : List Sr) (u : Value) (w : World) (hS : Sto w base g b v most l) (hbs : base ≤ w.heap.size) (hq : ∀ V, Fr (own3 g b v) w V → SpL V u q) : Calls Tryd.prog 34 #[.pointer (some ⟨g, 0, none⟩), u] w fun e w' => ∃ v', e = .returned (.int .i64 (pe l q most)) ∧ Sto w' base g b v' most (pl l q most) ∧ Fr (own3 g b v) w w' ∧ Nx w v v' := by
  rcases pe_cases l q most with ⟨h0, hm, hl⟩ | h
  · have e2 : pl l q most = l ++ q := if_pos h0
    rw [h0, e2]
    exact a_Put_go base g b v most l q u w hS hbs hq hm hl
  · have hne : pe l q most ≠ 0 := by omega
    have e2 : pl l q most = l := if_neg hne
    rw [e2]
    exact (a_Put_no base g b v most l q u w hS (hq w (Fr.refl _ _)) _ rfl hne).mono (fun e w' h => ⟨v, h.1, hS.keep h.2, Fr.of h.2, Nx.refl _ _⟩)
set_option maxRecDepth 100000 in
set_option maxHeartbeats 4000000 in
theorem a_From_bad (most : Int) (h0 : most < 0 ∨ 2000 < most) (u : Value) (w : World) : Calls Tryd.prog 26 #[.int .i64 most, u] w fun e w' => e = .returned (.tuple #[.pointer none, .int .i64 1]) ∧ Below w.heap.size w w' := by
  have cN := a_New_no most h0 w
  go_enter Tryd.func26, Tryd.ntmps26
  go_wp2_with (fail)
  refine cN.mono ?_
  rintro e_ w1 ⟨rfl, rfl⟩
  go_wp2_with (fail)
  go_ret2
  exact ⟨rfl, Below.refl _ _⟩
set_option maxRecDepth 100000 in
set_option maxHeartbeats 4000000 in
theorem a_From_no (most : Int) (h0 : 0 ≤ most) (h1 : most ≤ 2000) (q : List Sr) (u : Value) (w : World) (hq : SpL w u q) (E : Int) (hE : pe [] q most = E) (hne : E ≠ 0) : Calls Tryd.prog 26 #[.int .i64 most, u] w fun e w' => e = .returned (.tuple #[.pointer none, .int .i64 E]) ∧ Below w.heap.size w w' := by
  have cN := a_New most h0 h1 w
  have hd : decide (E = 0) = false := by simpa using hne
  go_enter Tryd.func26, Tryd.ntmps26
  go_wp2_with (fail)
  refine cN.mono ?_
  rintro e_ w1 ⟨g, b, rfl, hS, hb⟩
  have cP := a_Put_no w.heap.size g b _ most [] q u w1 hS (hq.keep hb) E hE hne
  clear hE
  go_wp2_with (fail)
  refine cP.mono ?_
  rintro e_ w2 ⟨rfl, hb2⟩
  replace hb := Below.after hb hb2
  go_wp2_with (fail)
  go_ret2
  exact ⟨rfl, hb⟩
set_option maxRecDepth 100000 in
set_option maxHeartbeats 4000000 in
theorem a_From_go (most : Int) (h0 : 0 ≤ most) (h1 : most ≤ 2000) (q : List Sr) (u : Value) (w : World) (hq : SpL w u q) (hm : mts [] q = false) (hl : (q.length : Int) ≤ most) : Calls Tryd.prog 26 #[.int .i64 most, u] w fun e w' => ∃ g b v, e = .returned (.tuple #[.pointer (some ⟨g, 0, none⟩), .int .i64 0]) ∧ Sto w' w.heap.size g b v most q ∧ Below w.heap.size w w' := by
  have cN := a_New most h0 h1 w
  go_enter Tryd.func26, Tryd.ntmps26
  go_wp2_with (fail)
  refine cN.mono ?_
  rintro e_ w1 ⟨g, b, rfl, hS, hb⟩
  have cP := a_Put_go w.heap.size g b _ most [] q u w1 hS hb.size (fun V hV => (hq.keep (Below.trans hb (hS.below hV hb.size)))) hm (by simpa using hl)
  go_wp2_with (fail)
  refine cP.mono ?_
  rintro e_ w2 ⟨v2, rfl, hS2, hf, _⟩
  replace hb := Below.trans hb (hS.below hf hb.size)
  rw [List.nil_append] at hS2
  clear hf hS
  go_wp2_with (fail)
  go_ret2
  exact ⟨g, b, v2, rfl, hS2, hb⟩
set_option maxRecDepth 100000 in
theorem infoSr : ∃ i, Tryd.prog.info? 52 = some i ∧ i.zero = some (.agg (srow zsr)) ∧ i.size = 65 ∧ i.bytes = 68 := ⟨_, rfl, rfl, rfl, rfl⟩
theorem SpL.cells {W : World} {ad : Addr} {k cap : Nat} {l : List Sr} (h : SpL W (.slice (some ad) k cap) l) : ∀ j u, (sps l)[j]? = some u → W.cell? (ad.add j) = some u := by
  intro j u hu
  have hok := h.ok
  have hj : j < l.length * 65 := by have := (List.getElem?_eq_some_iff.1 hu).1; rwa [sps_len hok] at this
  have hi : j / 65 < l.length := by omega
  obtain ⟨b, off, e, _, hr⟩ := h.at hi
  cases e
  have e1 : j = j / 65 * 65 + j % 65 := by omega
  have e2 : (sps l)[j / 65 * 65 + j % 65]? = (srl (gs l (j / 65)))[j % 65]? := flat_at l (fun s hs => srl_len (hok s hs)) (j / 65) (j % 65) hi (by omega)
  rw [e1, e2] at hu
  have := hr (j % 65) u hu
  rw [addr_add, e1, ← Nat.add_assoc]
  exact this
/-- Spares laid behind a list of one's own. -/
theorem wp_append_S {w : World} {o : Oper} {a : Act} {K : Act → World → Prop} {Q : Exit → Act → World → Prop} (s x : Operand) (ho : o.op = .call { callee := .builtin .append, args := #[s, x], argTypes := #[36, 36] })
    (base : Nat) (v : Value) (l : List Sr) (hs : a.eval s = v) (hI : OwnS w base v l) (u : Value) (q : List Sr) (hx : a.eval x = u) (hq : SpL w u q) (hlen : l.length + q.length ≤ 2069668946401) (hbase : base ≤ w.heap.size)
    (h : ∀ v' w', OwnS w' base v' (l ++ q) → w.grownBy w' v.ownBlock → Nx w v v' → K (a.put o.dst v') w') : o.wp Tryd.prog a w K Q := by
  obtain ⟨i0, hi, hz0, hz1, hz2⟩ := infoSr
  have hqo := hq.ok
  have hq2 := hq
  obtain ⟨ao, cap, rfl, h1, h2, h3, h4, h5⟩ := hq
  cases ao with
  | some ad =>
    refine wp_append_nx s x 36 ho base 52 i0 (.agg (srow zsr)) 65 68 Tryd.underlying36 hi hz0 hz1 hz2 rfl (by decide) v l.length (sps l) hs hI.1 ad q.length cap (sps q) hx (sps_len hqo) hq2.cells (sps_ones q) (by unfold maxLen; omega) (by omega) hbase (fun v' w' h1 h2 h3 => h v' w' ⟨?_, hI.2.app hqo⟩ h2 h3)
    rw [sps_app, List.length_append]
    exact h1
  | none =>
    obtain rfl := h3 rfl
    have hn0 : q.length = 0 := by omega
    have he0 : q = [] := List.length_eq_zero_iff.1 hn0
    subst he0
    have hrun := run_append_owned_none (P := Tryd.prog) w base 36 o.type 52 i0 65 Tryd.underlying36 hi _ l.length _ hI.1
    unfold Oper.wp
    simp [execOp, ho, resolve, invoke, builtin, hs, hx, hrun, Result.andThen]
    exact h v w (by simpa using hI) (World.grownBy.refl _ _) (Nx.refl _ _)
theorem spl_one (W : World) (s : Sr) (h : s.ok) : SpL (W.alloc (.cells (srow s) 52)) (.slice (some ⟨W.heap.size, 0, none⟩) 1 1) [s] := by
  refine ⟨_, 1, rfl, by simp, by simp, (fun e => by cases e), AllOk.one h, fun i hi => ⟨W.heap.size, 0, rfl, lt_of_row (hp1_0 _ _), ?_⟩⟩
  obtain rfl : i = 0 := by simp at hi; exact hi
  intro j x hx
  rw [cell_of_row _ _ _ _ _ _ (hp1_0 W (.cells (srow s) 52))]
  simpa [srow, gs] using hx
theorem run_bslS (s : Sr) (h : s.ok) (W : World) : (Instr.buildSlice 36 1 #[(0, .agg (srow s))]).run Tryd.prog W = .ok (.slice (some ⟨W.heap.size, 0, none⟩) 1 1) (W.alloc (.cells (srow s) 52)) := by
  obtain ⟨sh, sn, sm⟩ := s
  obtain ⟨h1, h2⟩ := h
  dsimp only at h1 h2
  obtain ⟨x0, x1, x2, x3, x4, x5, x6, x7, x8, x9, x10, x11, x12, x13, x14, x15, x16, x17, x18, x19, x20, x21, x22, x23, x24, x25, x26, x27, x28, x29, x30, x31, rfl⟩ := len32 sh h1
  obtain ⟨y0, y1, y2, y3, y4, y5, y6, y7, y8, y9, y10, y11, y12, y13, y14, y15, y16, y17, y18, y19, y20, y21, y22, y23, y24, y25, y26, y27, y28, y29, y30, y31, rfl⟩ := len32 sm h2
  kernel_rfl
theorem plc_nod : ∀ (l : List Lb) (i : Nat) (x : Lb), l.Nodup → l[i]? = some x → plc x l = some i
  | [], i, x, _, h => by simp at h
  | y :: r, 0, x, _, h => by
    simp at h
    unfold plc
    rw [if_pos h.symm]
  | y :: r, i + 1, x, hn, h => by
    simp only [List.getElem?_cons_succ] at h
    obtain ⟨h1, h2⟩ := List.nodup_cons.1 hn
    have : x ≠ y := fun e => h1 (e ▸ List.mem_of_getElem? h)
    unfold plc
    rw [if_neg this, plc_nod r i x h2 h]
    rfl
theorem fnd_at {l : List Sr} (hn : (l.map Sr.lb).Nodup) {i : Nat} (hi : i < l.length) : fnd l (gs l i).lb = some (gs l i) := by
  have : plc (gs l i).lb (l.map Sr.lb) = some i := plc_nod _ _ _ hn (by rw [List.getElem?_map, gs_get hi]; rfl)
  rw [fnd, this]
  rfl
theorem look_at {W : World} {base g b : Nat} {v : Value} {most : Int} {l : List Sr} (h : Sto W base g b v most l) {i : Nat} (hi : i < l.length) : (Instr.lookup 61 (.map (some b)) (lenc (gs l i).lb) false).run Tryd.prog W = .ok (.agg (irow .u8 (gs l i).m)) W := by
  have := run_lookm kLb Tryd.underlying61 W (zky W) b (ents l) h.map (ents_ok h.ok) (gs l i).lb (h.ok.at hi).1 false
  rw [aget_ents, fnd_at h.nod hi] at this
  exact this
theorem Sto.blk {W : World} {base g b : Nat} {ao : Option Addr} {n cap : Nat} {most : Int} {l : List Sr} (h : Sto W base g b (.slice ao n cap) most l) {i : Nat} (hi : i < l.length) : ∃ gl, ao = some ⟨gl, 0, none⟩ ∧ n = l.length ∧ W.rangeAt gl (i * 33) (lbl (gs l i)) := by
  have h1 := h.own
  have h0 := h.own
  obtain ⟨_, ⟨e, h3⟩ | ⟨gl, cap2, cur, e, hb, hg, _⟩⟩ := h1
  · omega
  · cases e
    exact ⟨gl, rfl, rfl, range_own h0 (flat_mem (fun s hs => lbl_len (h.ok s hs)) hi)⟩
set_option maxRecDepth 100000 in
set_option maxHeartbeats 4000000 in
theorem a_List (base g b : Nat) (v : Value) (most : Int) (l : List Sr) (w : World) (hS : Sto w base g b v most l) : Calls Tryd.prog 17 #[.pointer (some ⟨g, 0, none⟩)] w fun e w' => ∃ u, e = .returned u ∧ OwnS w' w.heap.size u l ∧ Below w.heap.size w w' := by
  obtain ⟨i0, hi, hz0, hz1, hz2⟩ := infoSr
  have hok := hS.ok
  have hm0 := hS.most0
  have hln := hS.len
  have hlo : ∀ k, own3 g b v k → k < w.heap.size := fun k hk => (hS.low k hk).2
  obtain ⟨ao, cap, rfl⟩ := slen_own hS.own
  have c1 := hS.c1
  obtain ⟨w0, hmk, hO0, hg0⟩ := run_make_own (P := Tryd.prog) w w.heap.size 36 52 i0 (.agg (srow zsr)) 65 Tryd.underlying36 hi hz0 hz1 .i64 .i64 l.length (by rw [hz2]; omega) (by unfold maxLen; omega) (Nat.le_refl _)
  have hw0 : Below w.heap.size w w0 := (Below.refl _ _).grown hg0 (Nat.le_refl _) (fun k e => by cases e)
  have hS0 := hS.keep hw0
  have c2 := hS0.c1
  have cL := a_Len base g b _ most l w hS
  go_enter Tryd.func17, Tryd.ntmps17
  go_wp2_with (fail)
  refine cL.mono ?_
  rintro e_ w1 ⟨rfl, h1_⟩
  subst w1
  clear cL
  go_wp2_with (fail)
  clear hmk c1 c2
  go_loopw [3, 14] (fun u3 i wr => ∃ k : Nat, k ≤ l.length ∧ i = .int .i64 k ∧ OwnS wr w.heap.size u3 (l.take k) ∧ Below w.heap.size w wr) (fun _ i _ => l.length - (intOf i).toNat)
  case atStart => exact ⟨0, by omega, rfl, ⟨by simpa [sps] using hO0, AllOk.nil⟩, hw0⟩
  case round =>
    clear hO0 hw0 hS0 hg0
    obtain ⟨k, hk, rfl, hO, hw⟩ := hrel
    by_cases hlt : k < l.length
    · have hd : decide ((k : Int) < (l.length : Int)) = true := by simp; omega
      obtain ⟨gl, rfl, _, hr⟩ := hS.blk hlt
      have hko := hok.at hlt
      have hk1 : 0 ≤ (k : Int) ∧ (k : Int) < (l.length : Int) := by omega
      have hgl : gl < w.heap.size := hlo gl (.inr (.inr rfl))
      replace hr := rangeAt_keep hr (hw.block gl hgl)
      replace hS := hS.keep hw
      have hil : (Tryd.prog.info? 77).map (·.size) = some (lbl (gs l k)).length := by rw [lbl_len hko]; kernel_rfl
      have hlo5 := fun k (e : u3.ownBlock = some k) => (hO.1.lt k e).2
      have sw := hw.size
      have z_ := hp1_0 wr (.cells (chc (zr 32) 0) 77)
      go_wp2_with (first | (refine wpList_load_mid rfl 77 _ rfl gl (k * 33) rfl (lbl (gs l k)) _ hr Tryd.underlying77 rfl hil ?_) | (refine wpList_alloc rfl 77 rfl (chc (zr 32) 0) zlb ?_) | (refine wpList_store_row rfl 77 _ _ rfl (wr.heap.size) (chc (gs l k).h (gs l k).n) rfl rfl 77 _ z_ (infoL _ hko.1 _) (by rw [chc_size _ (zr_len 32), chc_size _ hko.1]) (chc_one _ _) ?_; refine wpList_stay ?_) | fail)
      unfold WpStay
      try simp only [Act.put, List.setIfInBounds_toArray, List.set_cons_succ, List.set_cons_zero]
      have R5 := setRow_heap (wr.alloc (.cells (chc (zr 32) 0) 77)) wr.heap.size _ (chc (gs l k).h (gs l k).n) _ _ z_
      have hb_ : Below wr.heap.size wr ((wr.alloc (.cells (chc (zr 32) 0) 77)).setRow wr.heap.size (chc (gs l k).h (gs l k).n)) := below_setRow ((Below.refl _ _).alloc (Nat.le_refl _) _) (Nat.le_refl _) _
      have sz_g5 := hb_.size
      replace hS := hS.keep hb_
      replace hO := hO.keep hb_
      replace hw := Below.after hw hb_
      clear hb_ z_
      generalize ((wr.alloc (.cells (chc (zr 32) 0) 77)).setRow wr.heap.size (chc (gs l k).h (gs l k).n)) = w1 at *
      generalize wr.heap.size = g5 at *
      go_wp2_with (fail)
      have hbd : Below w1.heap.size w1 w1.drew := below_drN (Below.refl _ _) 1
      replace R5 := keep hbd R5
      replace hS := hS.keep hbd
      replace hO := hO.keep hbd
      replace hw := Below.after hw hbd
      clear hbd
      refine wp_region_noPanic ?_
      refine wp_region_held (S := fun W => Sto W base g b (.slice (some ⟨gl, 0, none⟩) l.length cap) most l ∧ W.heap[g5]? = some (.cells (chc (gs l k).h (gs l k).n) 77 (0, 0))) (by kernel_rfl) ?_
      change wpAnyH _ _ _ _ _ _ _ _ (World.drew _)
      generalize w1.drew = w2 at *
      refine wpAnyH_take (i := 0) (v := ?v1) rfl (by kernel_rfl) (by kernel_rfl) (by kernel_rfl) (fun _ _ _ h => h) (Or.inl ⟨by rfl, ?y1⟩) ⟨hS, R5⟩ ?r1
      case y1 =>
        intro w_ hS_
        go_simp
        try with_reducible rfl
      simp only [Act.put, List.getElem_toArray, List.getElem_cons_zero, List.setIfInBounds_toArray, List.set_cons_succ, List.set_cons_zero]
      refine wpAnyH_take (i := 1) (v := ?v2) rfl (by kernel_rfl) (by kernel_rfl) (by kernel_rfl) (fun _ _ _ h => h) (Or.inl ⟨by rfl, ?y2⟩) ⟨hS, R5⟩ ?r2
      case y2 =>
        intro w_ hS_
        go_simp
        try with_reducible rfl
      simp only [Act.put, List.getElem_toArray, List.getElem_cons_succ, List.getElem_cons_zero, List.setIfInBounds_toArray, List.set_cons_succ, List.set_cons_zero]
      refine wpAnyH_take (i := 2) (v := .agg (irow .u8 (gs l k).h)) rfl (by kernel_rfl) (by kernel_rfl) (by kernel_rfl) (fun _ _ _ h => h) (Or.inl ⟨by rfl, ?y3⟩) ⟨hS, R5⟩ ?r3
      case y3 =>
        intro w_ hS_
        simp only [List.getElem_toArray, List.getElem_cons_succ, List.getElem_cons_zero]
        exact run_load_part 23 _ (by rfl) (g5) 0 (by rfl) 77 (chc (gs l k).h (gs l k).n) (0, 0) (irow .u8 (gs l k).h) _ (hS_.2) (chc_key _ hko.1 _) Tryd.underlying23 rfl (infok8 _ hko.1)
      simp only [Act.put, List.getElem_toArray, List.getElem_cons_succ, List.getElem_cons_zero, List.setIfInBounds_toArray, List.set_cons_succ, List.set_cons_zero]
      refine wpAnyH_take (i := 3) (v := ?v4) rfl (by kernel_rfl) (by kernel_rfl) (by kernel_rfl) (fun _ _ _ h => h) (Or.inl ⟨by rfl, ?y4⟩) ⟨hS, R5⟩ ?r4
      case y4 =>
        intro w_ hS_
        go_simp
        try with_reducible rfl
      simp only [Act.put, List.getElem_toArray, List.getElem_cons_succ, List.getElem_cons_zero, List.setIfInBounds_toArray, List.set_cons_succ, List.set_cons_zero]
      refine wpAnyH_take (i := 4) (v := .int .u32 (gs l k).n) rfl (by kernel_rfl) (by kernel_rfl) (by kernel_rfl) (fun _ _ _ h => h) (Or.inl ⟨by rfl, ?y5⟩) ⟨hS, R5⟩ ?r5
      case y5 =>
        intro w_ hS_
        have c_ : w_.cell? ⟨g5, 32, none⟩ = some (.int .u32 (gs l k).n) := by rw [cell_of_row _ _ _ _ _ _ hS_.2, chc_n _ hko.1]
        go_simp
        try with_reducible rfl
      simp only [Act.put, List.getElem_toArray, List.getElem_cons_succ, List.getElem_cons_zero, List.setIfInBounds_toArray, List.set_cons_succ, List.set_cons_zero]
      refine wpAnyH_take (i := 5) (v := ?v6) rfl (by kernel_rfl) (by kernel_rfl) (by kernel_rfl) (fun _ _ _ h => h) (Or.inl ⟨by rfl, ?y6⟩) ⟨hS, R5⟩ ?r6
      case y6 =>
        intro w_ hS_
        go_simp
        try with_reducible rfl
      simp only [Act.put, List.getElem_toArray, List.getElem_cons_succ, List.getElem_cons_zero, List.setIfInBounds_toArray, List.set_cons_succ, List.set_cons_zero]
      refine wpAnyH_take (i := 6) (v := ?v7) rfl (by kernel_rfl) (by kernel_rfl) (by kernel_rfl) (fun _ _ _ h => h) (Or.inl ⟨by rfl, ?y7⟩) ⟨hS, R5⟩ ?r7
      case y7 =>
        intro w_ hS_
        go_simp
        try with_reducible rfl
      simp only [Act.put, List.getElem_toArray, List.getElem_cons_succ, List.getElem_cons_zero, List.setIfInBounds_toArray, List.set_cons_succ, List.set_cons_zero]
      refine wpAnyH_take (i := 7) (v := ?v8) rfl (by kernel_rfl) (by kernel_rfl) (by kernel_rfl) (fun _ _ _ h => h) (Or.inl ⟨by rfl, ?y8⟩) ⟨hS, R5⟩ ?r8
      case y8 =>
        intro w_ hS_
        go_simp
        try with_reducible rfl
      simp only [Act.put, List.getElem_toArray, List.getElem_cons_succ, List.getElem_cons_zero, List.setIfInBounds_toArray, List.set_cons_succ, List.set_cons_zero]
      refine wpAnyH_take (i := 8) (v := .map (some b)) rfl (by kernel_rfl) (by kernel_rfl) (by kernel_rfl) (fun _ _ _ h => h) (Or.inl ⟨by rfl, ?y9⟩) ⟨hS, R5⟩ ?r9
      case y9 =>
        intro w_ hS_
        have c_ := hS_.1.c2
        go_simp
        try with_reducible rfl
      simp only [Act.put, List.getElem_toArray, List.getElem_cons_succ, List.getElem_cons_zero, List.setIfInBounds_toArray, List.set_cons_succ, List.set_cons_zero]
      refine wpAnyH_take (i := 9) (v := .agg (chc (gs l k).h (gs l k).n)) rfl (by kernel_rfl) (by kernel_rfl) (by kernel_rfl) (fun _ _ _ h => h) (Or.inl ⟨by rfl, ?y10⟩) ⟨hS, R5⟩ ?r10
      case y10 =>
        intro w_ hS_
        simp only [List.getElem_toArray, List.getElem_cons_succ, List.getElem_cons_zero]
        exact run_load_part 77 _ (by rfl) (g5) 0 (by rfl) 77 (chc (gs l k).h (gs l k).n) (0, 0) (chc (gs l k).h (gs l k).n) _ (hS_.2) (all_row _) Tryd.underlying77 rfl (infoL _ hko.1 _)
      simp only [Act.put, List.getElem_toArray, List.getElem_cons_succ, List.getElem_cons_zero, List.setIfInBounds_toArray, List.set_cons_succ, List.set_cons_zero]
      refine wpAnyH_take (i := 10) (v := .agg (irow .u8 (gs l k).m)) rfl (by kernel_rfl) (by kernel_rfl) (by kernel_rfl) (fun _ _ _ h => h) (Or.inl ⟨by rfl, ?y11⟩) ⟨hS, R5⟩ ?r11
      case y11 =>
        intro w_ hS_
        simp only [List.getElem_toArray, List.getElem_cons_succ, List.getElem_cons_zero]
        exact run_look_op 61 _ _ false (by rfl) _ (lenc (gs l k).lb) _ (by rfl) (by rfl) (look_at hS_.1 hlt)
      simp only [Act.put, List.getElem_toArray, List.getElem_cons_succ, List.getElem_cons_zero, List.setIfInBounds_toArray, List.set_cons_succ, List.set_cons_zero]
      refine wpAnyH_take (i := 11) (v := .agg (srow (gs l k))) rfl (by kernel_rfl) (by kernel_rfl) (by kernel_rfl) (fun _ _ _ h => h) (Or.inl ⟨by rfl, ?y12⟩) ⟨hS, R5⟩ ?r12
      case y12 =>
        intro w_ hS_
        simp only [List.getElem_toArray, List.getElem_cons_succ, List.getElem_cons_zero]
        exact run_build_op 52 _ (by rfl) [(0, .agg (irow .u8 (gs l k).h)), (1, .int .u32 (gs l k).n), (2, .agg (irow .u8 (gs l k).m))] (by rfl) _ (builtS (gs l k) hko)
      simp only [Act.put, List.getElem_toArray, List.getElem_cons_succ, List.getElem_cons_zero, List.setIfInBounds_toArray, List.set_cons_succ, List.set_cons_zero]
      refine wpAnyH_one (k := 12) (fuel := 2) (by kernel_rfl) rfl (by kernel_rfl) (fun K_ hK => ?_)
      refine wp_world_op _ _ (run_bsl_op 36 _ rfl rfl (run_bslS (gs l k) hko w2)) ?_
      have hb_ : Below w2.heap.size w2 (w2.alloc (.cells (srow (gs l k)) 52)) := (Below.refl _ _).alloc (Nat.le_refl _) _
      have hq1 := spl_one w2 (gs l k) hko
      have lt5 := lt_of_row R5
      replace R5 := keep hb_ R5
      replace hS := hS.keep hb_
      replace hO := hO.keep hb_
      replace hw := Below.after hw hb_
      clear hb_
      refine hK _ _ ⟨hS, R5⟩ ?_
      simp only [Act.put, List.getElem_toArray, List.getElem_cons_succ, List.getElem_cons_zero, List.setIfInBounds_toArray, List.set_cons_succ, List.set_cons_zero]
      clear hK
      generalize w2.alloc (.cells (srow (gs l k)) 52) = w3 at *
      generalize w2.heap.size = gz at *
      refine wpAnyH_one (k := 13) (fuel := 1) (by kernel_rfl) rfl (by kernel_rfl) (fun K_ hK => ?_)
      refine wp_append_S (.tmp 18) (.tmp 30) rfl w.heap.size u3 (l.take k) rfl hO _ [(gs l k)] rfl hq1 (by simp; omega) hw.size (fun uN w4 hO2 hgr hnx => ?_)
      rw [← take_snocS l k hlt] at hO2
      have n5 : u3.ownBlock ≠ some g5 := fun e => by have := hlo5 _ e; omega
      replace R5 := (hgr.block g5 (lt_of_row R5) (fun e => n5 e.symm)).trans R5
      replace hS := hS.move (fun k hk => hgr.block k (hS.low k hk).2 (fun e => by have := (hO.1.lt k e.symm).1; have := hlo k hk; omega))
      replace hw := hw.grown hgr hw.size (fun k e => (hO.1.lt k e).1)
      clear hgr hO hq1
      refine hK _ _ ⟨hS, R5⟩ ?_
      simp only [Act.put, List.getElem_toArray, List.getElem_cons_succ, List.getElem_cons_zero, List.setIfInBounds_toArray, List.set_cons_succ, List.set_cons_zero]
      clear hK
      refine wpAnyH_take (i := 14) (v := ?v13) rfl (by kernel_rfl) (by kernel_rfl) (by kernel_rfl) (fun _ _ _ h => h) (Or.inl ⟨by rfl, ?y13⟩) ⟨hS, R5⟩ ?r13
      case y13 =>
        intro w_ hS_
        go_simp
        try with_reducible rfl
      simp only [Act.put, List.getElem_toArray, List.getElem_cons_succ, List.getElem_cons_zero, List.setIfInBounds_toArray, List.set_cons_succ, List.set_cons_zero]
      refine wpAnyH_done (by kernel_rfl) ?_ _
      refine NoPanic.normal ?_
      obtain ⟨ao3, n3, cap3, rfl⟩ : ∃ ao n c, uN = .slice ao n c := by obtain ⟨a_, c_, h_⟩ := slen_own hO2.1; exact ⟨a_, _, c_, h_⟩
      go_wp2_with (fail)
      refine ⟨⟨k + 1, by omega, by go_num, hO2, hw⟩, ?_⟩
      simp [intOf]; omega
    · obtain rfl : k = l.length := by omega
      have hd : decide ((l.length : Int) < (l.length : Int)) = false := by simp
      rw [List.take_length] at hO
      go_wp2_with (fail)
      go_ret
      exact ⟨_, rfl, hO, hw⟩

end Go.Proofs.YtjofbnilhkmpeaaDoor
