import Derived.Test.YtamieopjigjfiabDoorProg
import Derived.WalkKit
import Derived.WalkSpells
import Derived.WalkLawsBesides
import Derived.Lib.QuietBelow
import Derived.BigQuiet
import Derived.OrdersHeld
import Derived.Deep.RegionHeld3
import Derived.Deep.DeepAppendRoom
import Derived.Test.YtamieopjigjfiabDoorKa
import Derived.Test.YtamieopjigjfiabDoorZd
namespace Go.Proofs.YtamieopjigjfiabDoor
set_option maxRecDepth 100000
open Go Go.RowKit Go.Sort
attribute [local go_sem] setCell_drewN alloc_drewN


/-- What is asked. -/
def askr (key nonce : List B) (at_ : Nat) (v : Value) : Array Value := (irow .u8 (bl (key))) ++ ((irow .u8 (bl (nonce))) ++ #[.int .u64 (at_ : Int), v])
theorem ask_key (key nonce : List B) (at_ : Nat) (v : Value) : (askr key nonce at_ v).extract 0 (0 + (irow .u8 (bl (key))).size) = (irow .u8 (bl (key))) := by
  rw [askr, Nat.zero_add]; simp
theorem ask_nonce (key nonce : List B) (at_ : Nat) (v : Value) (hk : key.length = 32) : (askr key nonce at_ v).extract 32 (32 + (irow .u8 (bl (nonce))).size) = (irow .u8 (bl (nonce))) := by
  apply Array.ext'
  have h1 : ((irow .u8 (bl (key))).toList).length = 32 := by rw [Array.length_toList, irow_size, bl_len, hk]
  rw [askr, Array.toList_extract, Array.toList_append, Array.toList_append, List.extract_eq_take_drop, Nat.add_sub_cancel_left, List.drop_append_of_le_length (by omega), List.drop_of_length_le (by omega), List.nil_append, List.take_append_of_le_length (by rw [Array.length_toList]; exact Nat.le_refl _), List.take_of_length_le (by rw [Array.length_toList]; exact Nat.le_refl _)]
theorem ask_at {W : World} {g : Nat} {key nonce : List B} {at_ : Nat} {v : Value} {t : TypeId} (h : W.heap[g]? = some (.cells (askr key nonce at_ v) t (0, 0))) (hk : key.length = 32) (hn : nonce.length = 16) : W.cell? ⟨g, 48, none⟩ = some (.int .u64 (at_ : Int)) := by
  rw [cell_of_row W g 48 _ t (0, 0) h, askr, Array.getElem?_append_right (by rw [irow_size, bl_len, hk]; omega), irow_size, bl_len, hk, Array.getElem?_append_right (by rw [irow_size, bl_len, hn]; omega), irow_size, bl_len, hn]; rfl
theorem ask_data {W : World} {g : Nat} {key nonce : List B} {at_ : Nat} {v : Value} {t : TypeId} (h : W.heap[g]? = some (.cells (askr key nonce at_ v) t (0, 0))) (hk : key.length = 32) (hn : nonce.length = 16) : W.cell? ⟨g, 49, none⟩ = some v := by
  rw [cell_of_row W g 49 _ t (0, 0) h, askr, Array.getElem?_append_right (by rw [irow_size, bl_len, hk]; omega), irow_size, bl_len, hk, Array.getElem?_append_right (by rw [irow_size, bl_len, hn]; omega), irow_size, bl_len, hn]; rfl
theorem Own.keep {W V : World} {b : Nat} {v : Value} {d : List B} (h : Own W b v d) (hb : Below W.heap.size W V) : Own V b v d := by
  obtain ⟨h1, h2 | ⟨g, cap, cur, rfl, hb2, hg, h3⟩⟩ := h
  · exact ⟨h1, .inl h2⟩
  · exact ⟨h1, .inr ⟨g, cap, cur, rfl, hb2, Go.Proofs.YtamieopjigjfiabDoor.keep hb hg, h3⟩⟩
theorem Own.bys {W : World} {b : Nat} {v : Value} {d : List B} (h : Own W b v d) : Bys W v (bl d) := by
  rcases Nat.eq_zero_or_pos d.length with h0 | h0
  · obtain rfl : d = [] := List.length_eq_zero_iff.1 h0
    obtain ⟨ao, cap, rfl⟩ := slen_own5 h
    exact ⟨ao, cap, rfl, by decide, fun j hj => by simp [bl] at hj, bl_bnd _⟩
  · obtain ⟨g, cap, T, rfl, _, hg, hn, hm, _⟩ := own_row h h0
    refine ⟨some ⟨g, 0, none⟩, cap, by rw [bl_len], by rw [bl_len]; unfold maxLen at hm; omega, fun j hj => ?_, bl_bnd _⟩
    rw [bl_len] at hj
    refine ⟨g, 0, rfl, lt_of_row hg, ?_⟩
    rw [Nat.zero_add, bl_get]
    exact trow_cell hg hj
theorem Own.block {W : World} {b : Nat} {v : Value} {d : List B} (h : Own W b v d) (hv : v ≠ .slice none 0 0) : ∃ g cap cur, v = .slice (some ⟨g, 0, none⟩) d.length cap ∧ b ≤ g ∧ W.heap[g]? = some (.cells cur 5 (0, 0)) ∧ d.length ≤ cap ∧ cap ≤ maxLen ∧ cur.size = cap := by
  obtain ⟨h1, ⟨h2, _⟩ | ⟨g, cap, cur, rfl, hb2, hg, hn, hm, hs, _⟩⟩ := h
  · exact absurd h2 hv
  · exact ⟨g, cap, cur, rfl, hb2, hg, hn, hm, by rw [hs, Nat.mul_one]⟩
theorem Own.low {W : World} {b : Nat} {v : Value} {d : List B} (h : Own W b v d) : ∀ g l c, v = .slice (some ⟨g, 0, none⟩) l c → g < W.heap.size := by
  intro g l c hv
  obtain ⟨h1, ⟨rfl, _⟩ | ⟨g', cap, cur, rfl, hb2, hr, h3⟩⟩ := h
  · cases hv
  · cases hv; exact lt_of_row hr
theorem Own.grown {W V : World} {b gx : Nat} {v : Value} {d : List B} (h : Own W b v d) (hg : W.grownBy V (some gx)) (hx : ∀ g l c, v = .slice (some ⟨g, 0, none⟩) l c → g ≠ gx) : Own V b v d := by
  obtain ⟨h1, h2 | ⟨g, cap, cur, rfl, hb2, hr, h3⟩⟩ := h
  · exact ⟨h1, .inl h2⟩
  · exact ⟨h1, .inr ⟨g, cap, cur, rfl, hb2, (hg.block g (lt_of_row hr) (fun e => hx g _ _ rfl (Option.some.inj e))).trans hr, h3⟩⟩

theorem ex15 {f : FuncId} {args : Array Value} {w : World} {v : Value} {Bp : World → Prop} (h : Calls Tryd.prog f args w fun e w' => e = .returned v ∧ Bp w') : Calls Tryd.prog f args w fun e w' => ∃ v', e = .returned v' ∧ v' = v ∧ Bp w' := h.mono fun _ _ ⟨a, b⟩ => ⟨v, a, rfl, b⟩
theorem own_low {W : World} {b : Nat} {v : Value} {d : List B} (h : Own W b v d) : ∀ k, v.ownBlock = some k → b ≤ k := by
  obtain ⟨h1, ⟨rfl, _⟩ | ⟨g, cap, cur, rfl, hb, _⟩⟩ := h
  · intro k hk; cases hk
  · intro k hk
    have : g = k := by simpa [Value.ownBlock] using hk
    omega
theorem Own.bysB {W : World} {b : Nat} {v : Value} {d : List B} (h : Own W b v d) (hl : d.length ≤ 140737488351232) : BysB W v d := by
  refine ⟨h.bys, hl, fun a l c hv hn => ?_⟩
  obtain ⟨h1, ⟨rfl, _⟩ | ⟨g, cap, cur, rfl, hb, _⟩⟩ := h
  · cases hv; rfl
  · cases hv; cases hn
theorem own_high {W : World} {b : Nat} {v : Value} {d : List B} (h : Own W b v d) : ∀ k, v.ownBlock = some k → k < W.heap.size := by
  obtain ⟨h1, ⟨rfl, _⟩ | ⟨g, cap, cur, rfl, hb, hg, _⟩⟩ := h
  · intro k hk; cases hk
  · intro k hk
    have : g = k := by simpa [Value.ownBlock] using hk
    have := lt_of_row hg
    omega
theorem Own.grown2 {W V : World} {b : Nat} {v : Value} {d : List B} {ob : Option Nat} (h : Own W b v d) (hg : W.grownBy V ob) (hx : ∀ k, ob = some k → k < b) : Own V b v d := by
  obtain ⟨h1, h2 | ⟨g, cap, cur, rfl, hb2, hr, h3⟩⟩ := h
  · exact ⟨h1, .inl h2⟩
  · exact ⟨h1, .inr ⟨g, cap, cur, rfl, hb2, (hg.block g (lt_of_row hr) (fun e => by have := hx g e.symm; omega)).trans hr, h3⟩⟩
theorem bys_one (W : World) (x : B) : BysB (W.alloc (.cells #[.int .u8 (bv x)] 5)) (.slice (some ⟨W.heap.size, 0, none⟩) 1 1) [x] := by
  have hr : (W.alloc (.cells #[.int .u8 (bv x)] 5)).heap[W.heap.size]? = some (.cells #[.int .u8 (bv x)] 5 (0, 0)) := hp1_0 W _
  refine ⟨⟨some ⟨W.heap.size, 0, none⟩, 1, rfl, by simp [bl], fun j hj => ⟨W.heap.size, 0, rfl, lt_of_row hr, ?_⟩, bl_bnd _⟩, by simp, fun a l c h h2 => by cases h; cases h2⟩
  obtain rfl : j = 0 := by rw [bl_len, List.length_singleton] at hj; omega
  rw [cell_of_row _ W.heap.size _ _ 5 (0, 0) hr]
  rfl
theorem cell_one {W : World} {g : Nat} {y : B} {T : Array Value} (h : W.heap[g]? = some (.cells ((irow .u8 (bl ([y]))) ++ T) 5 (0, 0))) : W.cell? ⟨g, 0, none⟩ = some (.int .u8 (bv y)) := trow_cell (l := [y]) h Nat.zero_lt_one
theorem cry_one (K nonce : List B) (at_ : Nat) : ∃ s : B, Hid (∀ x : B, cry K nonce at_ [x] = [x ^^^ s]) := ⟨sby K nonce at_, hide (fun _ => rfl)⟩
theorem own_nil5 (W : World) : Own (W.alloc (.cells #[] 5)) W.heap.size (.slice (some ⟨W.heap.size, 0, none⟩) 0 0) [] := ⟨rfl, .inr ⟨W.heap.size, 0, #[], rfl, Nat.le_refl _, hp1_0 _ _, Nat.le_refl _, by decide, rfl, by simp [bl]⟩⟩
section
variable {P : Program} {ops : Array Oper} {Q : Exit → Act → World → Prop} {md : Region.Mode} {S : World → Prop}
/-- The one operation that may come up, where S is kept. -/
theorem wpAnyH_one {k : Nat} {o : Oper} {fuel : Nat} {listed : Array Bool} {a : Act} {w : World} (hr : Region.ready md ops listed = [k]) (hi : ops[k]? = some o) (hw : Region.wanted o (yielded ops a.tmps) = true)
    (h : ∀ K : Act → World → Prop, (∀ a' w', S w' → wpAnyH P md ops Q S fuel (listed.setIfInBounds k true) a' w' → K a' w') → o.wp P a w K Q) : wpAnyH P md ops Q S (fuel + 1) listed a w := by
  refine wpAnyH_all hr (by simp) (fun i hi' => ?_)
  obtain rfl : i = k := by simpa using hi'
  unfold wpOp
  simp only [hi, hw, if_true]
  exact .inl (h _ (fun a' w' hS hn => ⟨hS, hn⟩))
/-- Bytes laid behind a list of one's own. -/
theorem wp_append_bytes {o : Oper} {a : Act} {w : World} {K : Act → World → Prop} {Q : Exit → Act → World → Prop} (s x : Operand) (ho : o.op = .call { callee := .builtin .append, args := #[s, x], argTypes := #[26, 26] }) (base : Nat) (v : Value) (d : List B) (hs : a.eval s = v) (hO : Own w base v d) (y : Value) (e : List B) (hx : a.eval x = y) (hE : BysB w y e) (hlen : d.length + e.length ≤ 140737488351232) (hbase : base ≤ w.heap.size)
    (h : ∀ v' w', Own w' base v' (d ++ e) → w.grownBy w' v.ownBlock → K (a.put o.dst v') w') : o.wp Tryd.prog a w K Q := by
  obtain ⟨i0, hi, hz0, hz1, hz2⟩ := info85
  obtain ⟨⟨ao, cap, rfl, _, hc, _⟩, _, hnil⟩ := hE
  rw [bl_len] at hx hnil hc
  have hfin : ∀ v' w', w'.ownsRow base 5 1 v' (d.length + e.length) ((bl d).map (Value.int .u8) ++ (bl e).map (Value.int .u8)) → w.grownBy w' v.ownBlock → K (a.put o.dst v') w' := fun v' w' h1 h2 => h v' w' (by
    unfold Own
    rw [List.length_append, bl, List.map_append, List.map_append]
    exact h1) h2
  cases ao with
  | some ad =>
    refine wp_append_own w s x 26 ho base 5 i0 (.int .u8 0) 1 1 Tryd.underlying26 hi hz0 hz1 hz2 rfl (by decide) v d.length ((bl d).map (Value.int .u8)) hs hO ad e.length cap ((bl e).map (Value.int .u8)) hx (by rw [List.length_map, bl_len, Nat.mul_one]) (fun j u hu => ?_) (ints_one .u8 _) (by unfold maxLen; omega) (by omega) hbase (fun v' w' h2 h3 _ => hfin v' w' h2 h3)
    rw [List.getElem?_map] at hu
    obtain ⟨z, hz, rfl⟩ := Option.map_eq_some_iff.1 hu
    have hj : j < e.length := by have := (List.getElem?_eq_some_iff.1 hz).1; rwa [bl_len] at this
    obtain ⟨b, off, he, _, hcell⟩ := hc j hj
    obtain rfl := Option.some.inj he
    rw [addr_add, hcell, List.getD_eq_getElem?_getD, hz]
    rfl
  | none =>
    have hn0 : e.length = 0 := Nat.eq_zero_of_not_pos (fun h0 => by obtain ⟨b, off, he, _⟩ := hc 0 h0; cases he)
    obtain rfl := hnil _ _ _ rfl rfl
    have he0 : e = [] := List.length_eq_zero_iff.1 hn0
    subst he0
    have hrun := run_append_owned_none (P := Tryd.prog) w base 26 o.type 5 i0 1 Tryd.underlying26 hi _ d.length _ hO
    unfold Oper.wp
    simp [execOp, ho, resolve, invoke, builtin, hs, hx, hrun, Result.andThen]
    have h_ := hfin v w (by simpa [bl, Own] using hO) (World.grownBy.refl _ _)
    exact h_
/-- A part of a row, as it is read. -/
theorem run_load_part {o : Oper} {a : Act} {w : World} (ty : TypeId) (x : Operand) (ho : o.op = .load ty x) (g off : Nat) (hx : a.eval x = .pointer (some ⟨g, off, none⟩)) (t : TypeId) (cs : Array Value) (fr : Nat × Nat) (part : Array Value) (d : TypeDesc) (hg : w.heap[g]? = some (.cells cs t fr)) (hp : cs.extract off (off + part.size) = part)
    (hu : P.underlying ty = some d) (hd : d.isRow = true) (hi : (P.info? ty).map (·.size) = some part.size) : (execOp a.eval o).run P w = .ok (.value (.agg part)) w := by
  have hr := World.rangeAt_of_block hg off part.size
  rw [hp] at hr
  have hl := run_loadVar_mid (P := P) w g off ty part.toList d hr hu hd (by simpa using hi)
  unfold execOp
  simp only [ho, hx, Instr.loadAt, Instr.sureAddr, Sem.run_bind, Sem.run_pure, Result.andThen_ok, hl]
end

end Go.Proofs.YtamieopjigjfiabDoor

