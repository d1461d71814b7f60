import Derived.Test.YtlbcdjflcghkeaaDoorProg
import Derived.WalkKit
import Derived.WalkSpells
import Derived.WalkLawsBesides
import Derived.Lib.QuietBelow
import Derived.BigQuiet
import Derived.OrdersHeld
import Derived.Deep.RegionHeld3
import Derived.OwnWalk
import Derived.Deep.Cut
import Derived.Test.YtlbcdjflcghkeaaDoorKa
import Derived.Test.YtlbcdjflcghkeaaDoorAa1
import Derived.Test.YtlbcdjflcghkeaaDoorSgk
import Derived.Test.YtlbcdjflcghkeaaDoorSgn
import Derived.Test.YtlbcdjflcghkeaaDoorNm
import Derived.Lib.SlBytesConst
namespace Go.Proofs.YtlbcdjflcghkeaaDoor
set_option maxRecDepth 100000
open Go Go.RowKit Go.Sort
attribute [local go_sem] setCell_drewN alloc_drewN

/-- Bytes of a constant, turned to bytes. -/
theorem wp_convert {P : Program} {o : Oper} {a : Act} {w : World} {K : Act → World → Prop} {Q : Exit → Act → World → Prop} (t u : TypeId) (x : Operand) (ho : o.op = .convert t u x) (v v' : Value) (w' : World) (hx : a.eval x = v) (hr : (convert t u v).run P w = .ok v' w') (h : K (a.put o.dst v') w') : o.wp P a w K Q := by
  unfold Oper.wp
  simp [execOp, ho, hx, hr, Result.andThen]
  exact h
/-- So many bytes from a place on. -/
def pt (l : List Int) (o n : Nat) : List Int := (l.drop o).take n
theorem pt_len (l : List Int) (o n : Nat) (h : o + n ≤ l.length) : (pt l o n).length = n := by simp [pt]; omega
theorem pt_bd {l : List Int} (h : ∀ z ∈ l, 0 ≤ z ∧ z < 256) (o n : Nat) : ∀ z ∈ pt l o n, 0 ≤ z ∧ z < 256 := fun z hz => h z (List.mem_of_mem_drop (List.mem_of_mem_take hz))
theorem pt_ext (l : List Int) (o n : Nat) (k : IntKind) (h : o + n ≤ l.length) : (irow k l).extract o (o + (irow k (pt l o n)).size) = irow k (pt l o n) := by
  have hs : (irow k (pt l o n)).size = n := by rw [irow_size, pt_len l o n h]
  rw [hs]
  apply Array.ext'
  simp [irow, pt, List.map_take, List.map_drop, List.extract_eq_take_drop]
theorem pt_get (l : List Int) (o n i : Nat) (h : i < n) : (pt l o n).getD i 0 = l.getD (o + i) 0 := by
  simp only [pt, List.getD_eq_getElem?_getD, List.getElem?_take_of_lt h, List.getElem?_drop]
theorem sl_0 (g : Nat) (W : World) : (Instr.sliceAt 67 (.slice (some ⟨g, 0, none⟩) 96 96) none (some (.int .i64 32)) none).run Tryd.prog W = .ok (.slice (some ⟨g, 0, none⟩) 32 96) W := by kernel_rfl
theorem sl_1 (g : Nat) (W : World) : (Instr.sliceAt 67 (.slice (some ⟨g, 0, none⟩) 96 96) (some (.int .i64 32)) (some (.int .i64 64)) none).run Tryd.prog W = .ok (.slice (some ⟨g, 32, none⟩) 32 64) W := by kernel_rfl
theorem sl_2 (g : Nat) (W : World) : (Instr.sliceAt 67 (.slice (some ⟨g, 0, none⟩) 96 96) (some (.int .i64 64)) none none).run Tryd.prog W = .ok (.slice (some ⟨g, 64, none⟩) 32 32) W := by kernel_rfl
theorem bys_rowF {W : World} {g n : Nat} {l : List Int} {t : TypeId} {fr : Nat × Nat} (hg : W.heap[g]? = some (.cells (irow .u8 l) t fr)) (hl : l.length ≤ 9223372036854775807) (hz : ∀ z ∈ l, 0 ≤ z ∧ z < 256) (hn : l.length = n) {cap : Nat} : Bys W (.slice (some ⟨g, 0, none⟩) n cap) l := by
  subst hn
  refine ⟨_, _, rfl, hl, fun j hj => ⟨g, 0, rfl, lt_of_row hg, ?_⟩, hz⟩
  rw [Nat.zero_add, cell_of_row _ _ _ _ _ _ hg]
  simp [irow, List.getD_eq_getElem?_getD, List.getElem?_eq_getElem hj]
theorem arr_k (g o c : Nat) (W : World) : (Instr.arrayAt 23 (.slice (some ⟨g, o, none⟩) 32 c)).run Tryd.prog W = .ok (.pointer (some ⟨g, o, none⟩)) W := by kernel_rfl
/-- The secrets' cells. -/
def scr (a b c : List Int) (v : Value) : Array Value := (k8 a ++ (k8 b ++ (k8 c ++ ([v] ++ [])))).toArray
theorem scr_size (a b c : List Int) (v : Value) (ha : a.length = 32) (hb : b.length = 32) (hc : c.length = 32) : (scr a b c v).size = 97 := by simp [scr, k8_len, ha, hb, hc]
theorem scr_one (a b c : List Int) (v : Value) (hv : v.oneCell' = true) : (scr a b c v).all (·.oneCell') = true := by
  rw [scr, List.all_toArray, List.all_eq_true]
  intro u hu
  simp only [List.mem_append, List.mem_cons, List.not_mem_nil, or_false] at hu
  rcases hu with hu | hu | hu | rfl
  · exact k8_one _ _ hu
  · exact k8_one _ _ hu
  · exact k8_one _ _ hu
  · exact hv
theorem sc_a (a b c : List Int) (v : Value) (ha : a.length = 32) : (scr a b c v).extract 0 (0 + (irow .u8 a).size) = irow .u8 a := by
  rw [irow_size, ha]
  exact extr [] (k8 a) _ 0 32 rfl (by rw [k8_len, ha])
theorem sc_b (a b c : List Int) (v : Value) (ha : a.length = 32) (hb : b.length = 32) : (scr a b c v).extract 32 (32 + (irow .u8 b).size) = irow .u8 b := by
  rw [irow_size, hb]
  exact extr (k8 a) (k8 b) _ 32 32 (by rw [k8_len, ha]) (by rw [k8_len, hb])
theorem sc_c (a b c : List Int) (v : Value) (ha : a.length = 32) (hb : b.length = 32) (hc : c.length = 32) : (scr a b c v).extract 64 (64 + (irow .u8 c).size) = irow .u8 c := by
  have e : k8 a ++ (k8 b ++ (k8 c ++ ([v] ++ []))) = (k8 a ++ k8 b) ++ (k8 c ++ ([v] ++ [])) := by simp
  rw [irow_size, hc, scr, e]
  exact extr (k8 a ++ k8 b) (k8 c) _ 64 32 (by simp [k8_len, ha, hb]) (by rw [k8_len, hc])
theorem sc_v (a b c : List Int) (v : Value) (ha : a.length = 32) (hb : b.length = 32) (hc : c.length = 32) : (scr a b c v)[96]? = some v := by
  have e : k8 a ++ (k8 b ++ (k8 c ++ ([v] ++ []))) = (k8 a ++ (k8 b ++ k8 c)) ++ ([v] ++ []) := by simp
  rw [scr, e]
  exact getx (k8 a ++ (k8 b ++ k8 c)) [v] [] 96 0 (by simp [k8_len, ha, hb, hc]) (by simp)
theorem sc_put (a b c : List Int) (v u : Value) (ha : a.length = 32) (hb : b.length = 32) (hc : c.length = 32) : (scr a b c v).setIfInBounds 96 u = scr a b c u := by
  have e : ∀ x : Value, k8 a ++ (k8 b ++ (k8 c ++ ([x] ++ []))) = (k8 a ++ (k8 b ++ k8 c)) ++ [x] := by simp
  have l : (k8 a ++ (k8 b ++ k8 c)).length = 96 := by simp [k8_len, ha, hb, hc]
  rw [scr, scr, e, e, List.setIfInBounds_toArray, ← l, List.set_append_right _ _ (Nat.le_refl _), Nat.sub_self]
  rfl
theorem fit_scr (a b c : List Int) (v : Value) (ha : a.length = 32) (hb : b.length = 32) (hc : c.length = 32) (x y z : List Int) (u : Value) (hx : x.length = 32) (hy : y.length = 32) (hz : z.length = 32) : (scr a b c v).size = (scr x y z u).size := by rw [scr_size a b c v ha hb hc, scr_size x y z u hx hy hz]
def scz : Array Value := scr (zr 32) (zr 32) (zr 32) (.slice none 0 0)
/-- What the secrets are made of, and their 96 bytes. -/
def agn : List Int := [112, 97, 119, 108, 32, 97, 103, 114, 101, 101]
theorem agn_bd : ∀ z ∈ agn, 0 ≤ z ∧ z < 256 := by decide
def sec (ks : List (List Int)) : List Int := List.replicate 32 255 ++ ks.flatten
def scb (ks : List (List Int)) : List Int := xpd (hm (zr 32) (sec ks)) agn 96
theorem scb_len (ks : List (List Int)) : (scb ks).length = 96 := xpd_len _ _ _
theorem scb_bd (ks : List (List Int)) : ∀ z ∈ scb ks, 0 ≤ z ∧ z < 256 := xpd_bd _ _ _
/-- A list of bytes of one's own. -/
def OwnI (W : World) (b : Nat) (v : Value) (l : List Int) : Prop := W.ownsRow b 5 1 v l.length (l.map (Value.int .u8))
theorem OwnI.move {W W' : World} {b : Nat} {v : Value} {l : List Int} (h : OwnI W b v l) (hm : ∀ g o, v.ownBlock = some g → W.heap[g]? = some o → W'.heap[g]? = some o) : OwnI W' b v l := by
  obtain ⟨h1, h2 | ⟨g, cap, cur, e, hbg, hg, h3⟩⟩ := h
  · exact ⟨h1, .inl h2⟩
  · exact ⟨h1, .inr ⟨g, cap, cur, e, hbg, hm g _ (by rw [e]; rfl) hg, h3⟩⟩
theorem OwnI.keep {W W' : World} {b : Nat} {v : Value} {l : List Int} (h : OwnI W b v l) (hb : Below W.heap.size W W') : OwnI W' b v l := h.move (fun _ _ _ hg => Go.Proofs.YtlbcdjflcghkeaaDoor.keep hb hg)
theorem OwnI.lt {W : World} {b : Nat} {v : Value} {l : List Int} (h : OwnI W b v l) : ∀ k, v.ownBlock = some k → b ≤ k ∧ k < W.heap.size := World.ownsRow.lt h
theorem OwnI.down {W : World} {b c : Nat} {v : Value} {l : List Int} (h : OwnI W b v l) (hc : c ≤ b) : OwnI W c v l := by
  obtain ⟨h1, h2 | ⟨g, cap, cur, e1, hb, h3⟩⟩ := h
  · exact ⟨h1, .inl h2⟩
  · exact ⟨h1, .inr ⟨g, cap, cur, e1, Nat.le_trans hc hb, h3⟩⟩
theorem OwnI.form {W : World} {b : Nat} {v : Value} {l : List Int} (h : OwnI W b v l) : ∃ ao cap, v = .slice ao l.length cap := by
  obtain ⟨_, ⟨rfl, h0⟩ | ⟨g, cap, cur, rfl, _⟩⟩ := h
  · exact ⟨none, 0, by rw [h0]⟩
  · exact ⟨_, _, rfl⟩
/-- A list of bytes under way: one's own, or the beginning of a block. -/
def Sec (W : World) (b : Nat) (v : Value) (l : List Int) : Prop := OwnI W b v l ∨ ∃ G cs, v = .slice (some ⟨G, 0, none⟩) l.length l.length ∧ b ≤ G ∧ W.heap[G]? = some (.cells cs 5 (0, 0)) ∧ cs.toList.take l.length = l.map (Value.int .u8)
theorem Sec.keep {W W' : World} {b : Nat} {v : Value} {l : List Int} (h : Sec W b v l) (hb : Below W.heap.size W W') : Sec W' b v l := by
  rcases h with h | ⟨G, cs, rfl, h1, h2, h3⟩
  · exact .inl (h.keep hb)
  · exact .inr ⟨G, cs, rfl, h1, Go.Proofs.YtlbcdjflcghkeaaDoor.keep hb h2, h3⟩
theorem Sec.lt {W : World} {b : Nat} {v : Value} {l : List Int} (h : Sec W b v l) : ∀ k, v.ownBlock = some k → b ≤ k := by
  rcases h with h | ⟨G, cs, rfl, h1, h2, h3⟩
  · exact fun k hk => (World.ownsRow.lt h k hk).1
  · intro k hk; cases hk; exact h1
theorem Sec.bys {W : World} {b : Nat} {v : Value} {l : List Int} (h : Sec W b v l) (hl : l.length ≤ 9223372036854775807) (hz : ∀ z ∈ l, 0 ≤ z ∧ z < 256) : Bys W v l ∧ ∀ a n c, v = .slice a n c → n ≤ c := by
  rcases h with ⟨_, ⟨rfl, h0⟩ | ⟨g, cap, cur, rfl, _, hg, hnc, _, _, ht⟩⟩ | ⟨G, cs, rfl, h1, h2, h3⟩
  · refine ⟨⟨none, 0, by rw [h0], hl, fun j hj => by omega, hz⟩, fun a n c e => by cases e; exact Nat.le_refl _⟩
  · refine ⟨⟨_, cap, rfl, hl, fun j hj => ⟨g, 0, rfl, lt_of_row hg, ?_⟩, hz⟩, fun a n c e => by cases e; exact hnc⟩
    rw [Nat.zero_add, cell_of_row _ _ _ _ _ _ hg]
    have e : (cur.toList.take (l.length * 1))[j]? = (l.map (Value.int .u8))[j]? := by rw [ht]
    rw [Nat.mul_one, List.getElem?_take_of_lt hj] at e
    simpa [List.getD_eq_getElem?_getD, List.getElem?_eq_getElem hj] using e
  · refine ⟨⟨_, _, rfl, hl, fun j hj => ⟨G, 0, rfl, lt_of_row h2, ?_⟩, hz⟩, fun a n c e => by cases e; exact Nat.le_refl _⟩
    rw [Nat.zero_add, cell_of_row _ _ _ _ _ _ h2]
    have e : (cs.toList.take l.length)[j]? = (l.map (Value.int .u8))[j]? := by rw [h3]
    rw [List.getElem?_take_of_lt hj] at e
    simpa [List.getD_eq_getElem?_getD, List.getElem?_eq_getElem hj] using e
theorem infB : ∃ i, Tryd.prog.info? 5 = some i ∧ i.zero = some (.int .u8 0) ∧ i.size = 1 ∧ i.bytes = 1 := ⟨_, rfl, rfl, rfl, rfl⟩
theorem wp_append_sec {w : World} {o : Oper} {a : Act} {K : Act → World → Prop} {Q : Exit → Act → World → Prop} (s x : Operand) (ho : o.op = .call { callee := .builtin .append, args := #[s, x], argTypes := #[67, 67] })
    (base : Nat) (v : Value) (l : List Int) (hs : a.eval s = v) (hI : Sec w base v l) (ad : Addr) (key : List Int) (c : Nat) (hx : a.eval x = .slice (some ad) key.length c) (hn : ∀ j u, (key.map (Value.int .u8))[j]? = some u → w.cell? (ad.add j) = some u) (hp : 0 < key.length) (hlen : l.length + key.length ≤ 1000000) (hbase : base ≤ w.heap.size)
    (h : ∀ v' w', OwnI w' base v' (l ++ key) → w.grownBy w' v.ownBlock → K (a.put o.dst v') w') : o.wp Tryd.prog a w K Q := by
  obtain ⟨i0, hi, hz0, hz1, hz2⟩ := infB
  have hfin : ∀ v' w', w'.ownsRow base 5 1 v' (l.length + key.length) (l.map (Value.int .u8) ++ key.map (Value.int .u8)) → OwnI w' base v' (l ++ key) := fun v' w' h1 => by
    unfold OwnI
    rw [List.length_append, List.map_append]
    exact h1
  rcases hI with hI | ⟨G, cs, rfl, hG, hg, ht⟩
  · obtain ⟨v', w', hr, h2, h3, h4⟩ := run_append_own (P := Tryd.prog) w base 67 o.type 5 i0 (.int .u8 0) 1 1 Tryd.underlying67 hi hz0 hz1 hz2 rfl (by decide) v l.length (l.map (Value.int .u8)) hI ad key.length c (key.map (Value.int .u8)) (by simp) hn (ints_one .u8 _) (by unfold maxLen; omega) (by omega) hbase
    unfold Oper.wp execOp
    simp only [ho, resolve, invoke, builtin, Sem.run_bind, Sem.run_pure, Result.andThen_ok, List.map_toArray, List.map_cons, List.map_nil, hs, hx, hr]
    exact h v' w' (hfin v' w' h2) h3
  · have hold : ∀ j u, (l.map (Value.int .u8))[j]? = some u → w.cell? ((⟨G, 0, none⟩ : Addr).add j) = some u := by
      intro j u hj
      have hjl : j < l.length := by simpa using (List.getElem?_eq_some_iff.1 hj).1
      rw [addr_add, Nat.zero_add, cell_of_row _ _ _ _ _ _ hg, ← hj, ← ht, List.getElem?_take_of_lt hjl]
      simp
    have hr := run_append_grow (P := Tryd.prog) w 67 o.type 5 i0 (.int .u8 0) Tryd.underlying67 hi hz0 ⟨G, 0, none⟩ l.length l.length (l.map (Value.int .u8)) (by simp [hz1]) hold ad key.length c (key.map (Value.int .u8)) (by simp [hz1]) hn (by omega) (by omega) (growslice_fits (by omega) (by rw [hz2]; omega))
    have hge := grownCap_ge w (l.length + key.length) l.length 5
    have hcm : grownCap w (l.length + key.length) l.length 5 ≤ maxLen := grownCap_le_maxLen w (l.length + key.length) l.length 5 (by unfold maxLen; omega)
    unfold Oper.wp execOp
    simp only [ho, resolve, invoke, builtin, Sem.run_bind, Sem.run_pure, Result.andThen_ok, List.map_toArray, List.map_cons, List.map_nil, hs, hx, hr]
    refine h _ _ (hfin _ _ ⟨by simp, .inr ⟨w.heap.size, _, _, rfl, hbase, Go.heap_alloc_new w.drew _, hge, hcm, ?_, ?_⟩⟩) ⟨rfl, rfl, rfl, by simp, fun k hk _ => Go.heap_alloc_old w.drew _ hk⟩
    · simp only [Array.size_append, List.size_toArray, size_zeroCells, List.length_map]
      simp only [Value.cells, List.size_toArray, List.length_singleton]
      omega
    · simp only [Array.toList_append, List.append_assoc, Nat.mul_one]
      rw [← List.append_assoc]
      exact List.take_left' (by simp)
theorem wpList_append_sec {w : World} {ops : Array Oper} {rest : List Oper} {o : Oper} {a : Act} {Q : Exit → Act → World → Prop} (hgd : o.guard = none) (s x : Operand) (ho : o.op = .call { callee := .builtin .append, args := #[s, x], argTypes := #[67, 67] })
    (base : Nat) (v : Value) (l : List Int) (hs : a.eval s = v) (hI : Sec w base v l) (ad : Addr) (key : List Int) (c : Nat) (hx : a.eval x = .slice (some ad) key.length c) (hn : ∀ j u, (key.map (Value.int .u8))[j]? = some u → w.cell? (ad.add j) = some u) (hp : 0 < key.length) (hlen : l.length + key.length ≤ 1000000) (hbase : base ≤ w.heap.size)
    (h : ∀ v' w', OwnI w' base v' (l ++ key) → w.grownBy w' v.ownBlock → wpList Tryd.prog ops Q rest (a.put o.dst v') w') : wpList Tryd.prog ops Q (o :: rest) a w :=
  wpList_plain hgd fun _ hK => wp_append_sec s x ho base v l hs hI ad key c hx hn hp hlen hbase (fun v' w' h1 h2 => hK _ _ (h v' w' h1 h2))

end Go.Proofs.YtlbcdjflcghkeaaDoor
