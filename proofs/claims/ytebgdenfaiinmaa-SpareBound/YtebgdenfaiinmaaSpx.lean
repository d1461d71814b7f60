import Derived.Test.YtebgdenfaiinmaaProg
import Derived.WalkKit
import Derived.WalkSpells
import Derived.WalkLawsBesides
import Derived.Lib.QuietBelow
import Derived.BigQuiet
import Derived.OrdersHeld
import Derived.Deep.RegionHeld3
import Derived.OwnWalk
import Derived.Test.YtebgdenfaiinmaaKit
import Derived.Test.YtebgdenfaiinmaaSph
namespace Go.Proofs.Ytebgdenfaiinmaa
open Go Go.RowKit Go.Sort Go.ChangeMaps Go.MapKept
attribute [local go_sem] setCell_drewN alloc_drewN

/-- Keys' cells, one key behind the other. -/
def kcs (ks : List (List Int)) : List Value := ks.flatMap fun k => k.map (Value.int .u8)
theorem kcs_app (a b : List (List Int)) : kcs (a ++ b) = kcs a ++ kcs b := by simp [kcs]
theorem kcs_one (k : List Int) : kcs [k] = k.map (Value.int .u8) := by simp [kcs]
/-- A list of keys in a block of its own, from a block on. -/
def OwnK (W : World) (b : Nat) (v : Value) (ks : List (List Int)) : Prop := W.ownsRow b 40 32 v ks.length (kcs ks)
theorem infoKy : ∃ i, Try.prog.info? 40 = some i ∧ i.zero = some (.agg (irow .u8 (zr 32))) ∧ i.size = 32 ∧ i.bytes = 32 := ⟨_, rfl, rfl, rfl, rfl⟩
theorem run_bslK (key : List Int) (hkl : key.length = 32) (W : World) : (Instr.buildSlice 77 1 #[(0, .agg (irow .u8 key))]).run Try.prog W = .ok (.slice (some ⟨W.heap.size, 0, none⟩) 1 1) (W.alloc (.cells (irow .u8 key) 40)) := by
  obtain ⟨x0, x1, x2, x3, x4, x5, x6, x7, x8, x9, x10, x11, x12, x13, x14, x15, x16, x17, x18, x19, x20, x21, x22, x23, x24, x25, x26, x27, x28, x29, x30, x31, rfl⟩ := len32 key hkl
  kernel_rfl
theorem row_news {W : World} {g : Nat} {key : List Int} {t : TypeId} (rg : W.heap[g]? = some (.cells (irow .u8 key) t (0, 0))) : ∀ j x, (key.map (Value.int .u8))[j]? = some x → W.cell? ((⟨g, 0, none⟩ : Addr).add j) = some x := by
  intro j x hx
  rw [addr_add, cell_of_row _ _ _ _ _ _ rg, Nat.zero_add]
  simpa [irow] using hx
/-- A key laid behind a list of one's own, as a step. -/
theorem wp_append_K {w : World} {o : Oper} {a : Act} {K : Act → World → Prop} {Q : Exit → Act → World → Prop} (s x : Operand) (ho : o.op = .call { callee := .builtin .append, args := #[s, x], argTypes := #[77, 77] })
    (base : Nat) (v : Value) (ks : List (List Int)) (hs : a.eval s = v) (hI : OwnK w base v ks) (g : Nat) (key : List Int) (hkl : key.length = 32) (hx : a.eval x = .slice (some ⟨g, 0, none⟩) 1 1) (rg : w.heap[g]? = some (.cells (irow .u8 key) 40 (0, 0))) (hlen : ks.length ≤ 1000000) (hbase : base ≤ w.heap.size)
    (h : ∀ v' w', OwnK w' base v' (ks ++ [key]) → w.grownBy w' v.ownBlock → Nx w v v' → K (a.put o.dst v') w') : o.wp Try.prog a w K Q := by
  obtain ⟨i0, hi, hz0, hz1, hz2⟩ := infoKy
  refine wp_append_nx s x 77 ho base 40 i0 (.agg (irow .u8 (zr 32))) 32 32 Try.underlying77 hi hz0 hz1 hz2 rfl (by decide) v ks.length (kcs ks) hs hI ⟨g, 0, none⟩ 1 1 (key.map (Value.int .u8)) hx (by simp [hkl]) (row_news rg) (ints_one .u8 _) (by unfold maxLen; omega) (by omega) hbase (fun v' w' h1 h2 h3 => h v' w' ?_ h2 h3)
  unfold OwnK
  rw [kcs_app, kcs_one, List.length_append, List.length_singleton]
  exact h1
theorem wpList_append_K {w : World} {ops : Array Oper} {rest : List Oper} {o : Oper} {a : Act} {Q : Exit → Act → World → Prop} (hgd : o.guard = none) (s x : Operand) (ho : o.op = .call { callee := .builtin .append, args := #[s, x], argTypes := #[77, 77] })
    (base : Nat) (v : Value) (ks : List (List Int)) (hs : a.eval s = v) (hI : OwnK w base v ks) (g : Nat) (key : List Int) (hkl : key.length = 32) (hx : a.eval x = .slice (some ⟨g, 0, none⟩) 1 1) (rg : w.heap[g]? = some (.cells (irow .u8 key) 40 (0, 0))) (hlen : ks.length ≤ 1000000) (hbase : base ≤ w.heap.size)
    (h : ∀ v' w', OwnK w' base v' (ks ++ [key]) → w.grownBy w' v.ownBlock → Nx w v v' → wpList Try.prog ops Q rest (a.put o.dst v') w') : wpList Try.prog ops Q (o :: rest) a w :=
  wpList_plain hgd fun _ hK => wp_append_K s x ho base v ks hs hI g key hkl hx rg hlen hbase (fun v' w' h1 h2 h3 => hK _ _ (h v' w' h1 h2 h3))
theorem wpList_bslK {w : World} {ops : Array Oper} {rest : List Oper} {o : Oper} {a : Act} {Q : Exit → Act → World → Prop} (hgd : o.guard = none) (x : Operand) (ho : o.op = .buildSlice 77 1 #[(0, x)]) (key : List Int) (hkl : key.length = 32) (hx : a.eval x = .agg (irow .u8 key))
    (h : wpList Try.prog ops Q rest (a.put o.dst (.slice (some ⟨w.heap.size, 0, none⟩) 1 1)) (w.alloc (.cells (irow .u8 key) 40))) : wpList Try.prog ops Q (o :: rest) a w := by
  refine wpList_plain hgd fun K hK => ?_
  refine wp_world_op _ _ ?_ (hK _ _ h)
  have hr := run_bslK key hkl w
  simp [execOp, ho, hx, hr, Result.andThen]
theorem OwnK.keep {W W' : World} {b : Nat} {v : Value} {ks : List (List Int)} (h : OwnK W b v ks) (hb : Below W.heap.size W W') : OwnK W' b v ks := own_keep h hb
/-- The header keys of the first so many, each once. -/
def hdn (l : List Sr) : Nat → List (List Int)
  | 0 => []
  | k + 1 => if (plc (gs l k).h (hdn l k)).isSome then hdn l k else hdn l k ++ [(gs l k).h]
def hds (l : List Sr) : List (List Int) := hdn l l.length
theorem hdn_len (l : List Sr) : ∀ k, (hdn l k).length ≤ k
  | 0 => Nat.le_refl _
  | k + 1 => by
    have := hdn_len l k
    unfold hdn
    split
    · omega
    · rw [List.length_append, List.length_singleton]; omega
theorem hdn_ok {l : List Sr} (h : AllOk l) : ∀ k, k ≤ l.length → ∀ x ∈ hdn l k, x.length = 32
  | 0, _, x, hx => by cases hx
  | k + 1, hk, x, hx => by
    unfold hdn at hx
    split at hx
    · exact hdn_ok h k (by omega) x hx
    · rcases List.mem_append.1 hx with q | q
      · exact hdn_ok h k (by omega) x q
      · rw [List.mem_singleton] at q
        rw [q]; exact (h.at (show k < l.length by omega)).1
def ksn (ks : List (List Int)) : List (List Int × Value) := ks.map fun x => (x, .agg #[])
theorem ksn_keys (ks : List (List Int)) : (ksn ks).map (·.1) = ks := by
  rw [ksn, List.map_map]
  exact List.map_id' ks
theorem look_ksn {W : World} {b : Nat} {ks : List (List Int)} (h : MapIs W b kenc (ksn ks)) (hq : ∀ x ∈ ks, x.length = 32) (x : List Int) (hx : kok x) : (Instr.lookup 94 (.map (some b)) (kenc x) true).run Try.prog W = .ok (.tuple #[.agg #[], .bool (plc x ks).isSome]) W := by
  have := run_lookm kKy Try.underlying94 W (zun0 W) b (ksn ks) h (fun y hy => by
    obtain ⟨z, hz, rfl⟩ := List.mem_map.1 hy
    exact hq z hz) x hx true
  rw [this]
  have e : aget (ksn ks) x = (plc x ks).map fun _ => .agg #[] := by
    unfold aget
    rw [ksn_keys]
    cases h : plc x ks with
    | none => rfl
    | some i =>
      have hi := (plc_lt x _ i h).1
      simp [ksn, hi]
  rw [e]
  cases plc x ks <;> rfl
set_option maxRecDepth 100000 in
set_option maxHeartbeats 4000000 in
theorem a_Headers (base g b : Nat) (v : Value) (most : Int) (l : List Sr) (w : World) (hS : Sto w base g b v most l) : Calls Try.prog 40 #[.pointer (some ⟨g, 0, none⟩)] w fun e w' => ∃ u, e = .returned u ∧ OwnK w' (w.heap.size + 1) u (hds l) ∧ Below w.heap.size w w' := by
  have hok := hS.ok
  have hm0 := hS.most0
  have hln := hS.len
  have hlo : ∀ k, own3 g b v k → k < w.heap.size := fun k hk => (hS.low k hk).2
  obtain ⟨ao, cap, rfl⟩ := slen_own hS.own
  have hmm := @run_makeMap Try.prog
  have hM0 : MapIs (w.alloc (.map #[] 0)) w.heap.size kenc (ksn (hdn l 0)) := ⟨#[], 0, hp1_0 _ _, rfl⟩
  have hw0 : Below w.heap.size w (w.alloc (.map #[] 0)) := (Below.refl _ _).alloc (Nat.le_refl _) _
  have c1 := (hS.keep hw0).c1
  go_enter Try.func40, Try.ntmps40
  go_wp2_with (fail)
  clear c1
  go_loopw [3, 15] (fun u3 i wr => ∃ k : Nat, k ≤ l.length ∧ i = .int .i64 k ∧ OwnK wr (w.heap.size + 1) u3 (hdn l k) ∧ Below w.heap.size w wr ∧ MapIs wr w.heap.size kenc (ksn (hdn l k))) (fun _ i _ => l.length - (intOf i).toNat)
  case atStart => exact ⟨0, by omega, rfl, ⟨rfl, .inl ⟨rfl, rfl⟩⟩, hw0, hM0⟩
  case round =>
    clear hM0 hw0
    obtain ⟨k, hk, rfl, hO, hw, hM⟩ := hrel
    by_cases hlt : k < l.length
    · have hd : decide ((k : Int) < (l.length : Int)) = true := by simp; omega
      obtain ⟨gl, rfl, _, hr⟩ := hS.blk hlt
      have hko := hok.at hlt
      have hk1 : 0 ≤ (k : Int) ∧ (k : Int) < (l.length : Int) := by omega
      have hgl : gl < w.heap.size := hlo gl (.inr (.inr rfl))
      have hks := hdn_ok hok k hk
      replace hr := rangeAt_keep hr (hw.block gl hgl)
      have hil : (Try.prog.info? 86).map (·.size) = some (lbl (gs l k)).length := by rw [lbl_len hko]; kernel_rfl
      have sw := hw.size
      have lgm : w.heap.size < wr.heap.size := hM.lt
      clear hS
      have z_ := hp1_0 wr (.cells (chc (zr 32) 0) 86)
      go_wp2_with (first | (refine wpList_load_mid rfl 86 _ rfl gl (k * 33) rfl (lbl (gs l k)) _ hr Try.underlying86 rfl hil ?_) | (refine wpList_alloc rfl 86 rfl (chc (zr 32) 0) zlb ?_) | (refine wpList_store_row rfl 86 _ _ rfl (wr.heap.size) (chc (gs l k).h (gs l k).n) rfl rfl 86 _ z_ (infoL _ hko.1 _) (by rw [chc_size _ (zr_len 32), chc_size _ hko.1]) (chc_one _ _) ?_; refine wpList_stay ?_) | fail)
      unfold WpStay
      try simp only [Act.put, List.setIfInBounds_toArray, List.set_cons_succ, List.set_cons_zero]
      have R6 := setRow_heap (wr.alloc (.cells (chc (zr 32) 0) 86)) wr.heap.size _ (chc (gs l k).h (gs l k).n) _ _ z_
      have hb_ : Below wr.heap.size wr ((wr.alloc (.cells (chc (zr 32) 0) 86)).setRow wr.heap.size (chc (gs l k).h (gs l k).n)) := below_setRow ((Below.refl _ _).alloc (Nat.le_refl _) _) (Nat.le_refl _) _
      have sz_g6 := hb_.size
      replace hO := hO.keep hb_
      replace hw := Below.after hw hb_
      replace hM := hM.row (fun _ h_ => keep hb_ h_)
      clear hb_ z_
      generalize ((wr.alloc (.cells (chc (zr 32) 0) 86)).setRow wr.heap.size (chc (gs l k).h (gs l k).n)) = w1 at *
      generalize wr.heap.size = g6 at *
      have hb7 : Below w1.heap.size w1 (w1.alloc (.cells #[] 95)) := (Below.refl _ _).alloc (Nat.le_refl _) _
      have R9 := keep hb7 R6
      have hM9 : MapIs (w1.alloc (.cells #[] 95)) w.heap.size kenc (ksn (hdn l k)) := hM.row (fun _ h_ => keep hb7 h_)
      have hO9 := hO.keep hb7
      have hw9 := Below.after hw hb7
      have hlk := look_ksn hM hks (gs l k).h hko.1
      have hn1 : (plc (gs l k).h (hdn l k)).isSome = true → Hid (hdn l (k + 1) = hdn l k) := fun h => hide (by rw [hdn, if_pos h])
      have hn2 : (plc (gs l k).h (hdn l k)).isSome = false → Hid (hdn l (k + 1) = hdn l k ++ [(gs l k).h]) := fun h => hide (by rw [hdn, if_neg (by rw [h]; decide)])
      have hn4 : (plc (gs l k).h (hdn l k)).isSome = false → Hid ((gs l k).h ∉ (ksn (hdn l k)).map (·.1)) := fun h => hide (by rw [ksn_keys]; exact (plc_f _ _).1 h)
      have hlk1 := hdn_len l k
      generalize (plc (gs l k).h (hdn l k)).isSome = B1 at *
      cases B1
      · have hn := hn2 rfl
        obtain ⟨o_, hru, hM2⟩ := run_updm kKy Try.underlying94 _ w.heap.size (ksn (hdn l k)) hM9 (fun y hy => by obtain ⟨z, hz, rfl⟩ := List.mem_map.1 hy; exact hks z hz) (gs l k).h hko.1 (.agg #[]) (hn4 rfl).out
        have e8 : ksn (hdn l k) ++ [((gs l k).h, .agg #[])] = ksn (hdn l (k + 1)) := by rw [hn.out, ksn, ksn, List.map_append]; rfl
        rw [e8] at hM2
        have hw8 := below_setBlock o_ hw9 (Nat.le_refl _)
        have R8 := (sb_other (W := w1.alloc (.cells #[] 95)) (b := w.heap.size) (k := g6) (o := o_) (by omega)).trans R9
        have hO8 : OwnK (setBlock (w1.alloc (.cells #[] 95)) w.heap.size o_) (w.heap.size + 1) u3 (hdn l k) := own_move hO9 (fun k_ e_ => sb_other (by have := (World.ownsRow.lt hO9 k_ e_).1; omega))
        have sz8 : w.heap.size + 1 ≤ (setBlock (w1.alloc (.cells #[] 95)) w.heap.size o_).heap.size := by have := MapIs.lt hM2; omega
        clear hn1 hn2 hn4 hM9 hM hO hO9 hw9 e8
        go_wp2_with (first | (refine wpList_alloc rfl 95 rfl #[] zun ?_) | (refine wpList_load_part rfl 40 _ rfl (g6) 0 rfl 86 (chc (gs l k).h (gs l k).n) (0, 0) (irow .u8 (gs l k).h) _ R6 (chc_key _ hko.1 _) Try.underlying40 rfl (infok8 _ hko.1) ?_) | (refine wpList_load_part rfl 40 _ rfl (g6) 0 rfl 86 (chc (gs l k).h (gs l k).n) (0, 0) (irow .u8 (gs l k).h) _ R9 (chc_key _ hko.1 _) Try.underlying40 rfl (infok8 _ hko.1) ?_) | (refine wpList_look rfl 94 _ _ true rfl _ (kenc (gs l k).h) _ rfl rfl hlk ?_) | (refine wpList_build_as rfl 95 _ rfl [] rfl #[] bun ?_) | (refine wpList_upd rfl 94 _ _ _ rfl _ (kenc (gs l k).h) (.agg #[]) rfl rfl rfl hru ?_; refine wpList_stay ?_) | fail)
        unfold WpStay
        try simp only [Act.put, List.setIfInBounds_toArray, List.set_cons_succ, List.set_cons_zero]
        generalize setBlock (w1.alloc (.cells #[] 95)) w.heap.size o_ = w8 at *
        have hbx : Below w8.heap.size w8 (w8.alloc (.cells (irow .u8 (gs l k).h) 40)) := (Below.refl _ _).alloc (Nat.le_refl _) _
        have hOx := hO8.keep hbx
        have hMx : MapIs (w8.alloc (.cells (irow .u8 (gs l k).h) 40)) w.heap.size kenc (ksn (hdn l (k + 1))) := hM2.row (fun _ h_ => keep hbx h_)
        have hwx := Below.after hw8 hbx
        have Rx := hp1_0 w8 (.cells (irow .u8 (gs l k).h) 40)
        go_wp2_with (first | (refine wpList_load_part rfl 40 _ rfl (g6) 0 rfl 86 (chc (gs l k).h (gs l k).n) (0, 0) (irow .u8 (gs l k).h) _ R8 (chc_key _ hko.1 _) Try.underlying40 rfl (infok8 _ hko.1) ?_) | (refine wpList_bslK rfl _ rfl (gs l k).h hko.1 rfl ?_) | (at_builtin; refine wpList_append_K rfl _ _ rfl (w.heap.size + 1) u3 (hdn l k) rfl hOx w8.heap.size (gs l k).h hko.1 rfl Rx (by omega) (by have := hbx.size; omega) ?_) | fail)
        intro uN wN hON hgN hxN
        have hwN : Below w.heap.size w wN := hwx.grown hgN hwx.size (fun k_ e_ => by have := (World.ownsRow.lt hOx k_ e_).1; omega)
        have hMN : MapIs wN w.heap.size kenc (ksn (hdn l (k + 1))) := hMx.row (fun _ h_ => (hgN.block w.heap.size (lt_of_row h_) (fun e_ => by have := (World.ownsRow.lt hOx w.heap.size e_.symm).1; omega)).trans h_)
        rw [← hn.out] at hON
        obtain ⟨aoN, nN, cN, rfl⟩ : ∃ ao n c, uN = .slice ao n c := by obtain ⟨a_, c_, h_⟩ := slen_own hON; exact ⟨a_, _, c_, h_⟩
        clear hgN hxN hOx hMx hwx Rx hbx hO8 hw8 hM2
        go_wp2_with (fail)
        refine ⟨⟨k + 1, by omega, by go_num, hON, hwN, hMN⟩, ?_⟩
        simp [intOf]; omega
      · have hn := hn1 rfl
        rw [← hn.out] at hM9 hO9
        clear hn1 hn2 hn4 hM hO hks
        go_wp2_with (first | (refine wpList_alloc rfl 95 rfl #[] zun ?_) | (refine wpList_load_part rfl 40 _ rfl (g6) 0 rfl 86 (chc (gs l k).h (gs l k).n) (0, 0) (irow .u8 (gs l k).h) _ R6 (chc_key _ hko.1 _) Try.underlying40 rfl (infok8 _ hko.1) ?_) | (refine wpList_look rfl 94 _ _ true rfl _ (kenc (gs l k).h) _ rfl rfl hlk ?_) | fail)
        refine ⟨⟨k + 1, by omega, by go_num, hO9, hw9, hM9⟩, ?_⟩
        simp [intOf]; omega
    · obtain rfl : k = l.length := by omega
      have hd : decide ((l.length : Int) < (l.length : Int)) = false := by simp
      go_wp2_with (fail)
      go_ret
      exact ⟨_, rfl, hO, hw⟩

end Go.Proofs.Ytebgdenfaiinmaa
