import Derived.Test.YtkpjpdlamojejaaDoorProg
import Derived.WalkKit
import Derived.WalkSpells
import Derived.WalkLawsBesides
import Derived.Lib.QuietBelow
import Derived.BigQuiet
import Derived.OrdersHeld
import Derived.Deep.RegionHeld3
import Derived.OwnWalk
import Derived.Deep.Cut
import Derived.Test.YtkpjpdlamojejaaDoorKa
import Derived.Test.YtkpjpdlamojejaaDoorAa2
import Derived.Test.YtkpjpdlamojejaaDoorSgn
import Derived.Test.YtkpjpdlamojejaaDoorNm
import Derived.Lib.SlBytesConst
import Derived.Test.YtkpjpdlamojejaaDoorNn
import Derived.Lib.AppendZeros
namespace Go.Proofs.YtkpjpdlamojejaaDoor
set_option maxRecDepth 100000
open Go Go.RowKit Go.Sort
attribute [local go_sem] setCell_drewN alloc_drewN

/-- Bytes of a constant, turned to bytes. -/
theorem wp_convert {P : Program} {o : Oper} {a : Act} {w : World} {K : Act → World → Prop} {Q : Exit → Act → World → Prop} (t u : TypeId) (x : Operand) (ho : o.op = .convert t u x) (v v' : Value) (w' : World) (hx : a.eval x = v) (hr : (convert t u v).run P w = .ok v' w') (h : K (a.put o.dst v') w') : o.wp P a w K Q := by
  unfold Oper.wp
  simp [execOp, ho, hx, hr, Result.andThen]
  exact h
/-- So many bytes from a place on. -/
def pt (l : List Int) (o n : Nat) : List Int := (l.drop o).take n
theorem pt_len (l : List Int) (o n : Nat) (h : o + n ≤ l.length) : (pt l o n).length = n := by simp [pt]; omega
theorem pt_bd {l : List Int} (h : ∀ z ∈ l, 0 ≤ z ∧ z < 256) (o n : Nat) : ∀ z ∈ pt l o n, 0 ≤ z ∧ z < 256 := fun z hz => h z (List.mem_of_mem_drop (List.mem_of_mem_take hz))
theorem pt_ext (l : List Int) (o n : Nat) (k : IntKind) (h : o + n ≤ l.length) : (irow k l).extract o (o + (irow k (pt l o n)).size) = irow k (pt l o n) := by
  have hs : (irow k (pt l o n)).size = n := by rw [irow_size, pt_len l o n h]
  rw [hs]
  apply Array.ext'
  simp [irow, pt, List.map_take, List.map_drop, List.extract_eq_take_drop]
theorem pt_get (l : List Int) (o n i : Nat) (h : i < n) : (pt l o n).getD i 0 = l.getD (o + i) 0 := by
  simp only [pt, List.getD_eq_getElem?_getD, List.getElem?_take_of_lt h, List.getElem?_drop]
theorem sl_0 (g : Nat) (W : World) : (Instr.sliceAt 28 (.slice (some ⟨g, 0, none⟩) 96 96) none (some (.int .i64 32)) none).run Tryd.prog W = .ok (.slice (some ⟨g, 0, none⟩) 32 96) W := by kernel_rfl
theorem sl_1 (g : Nat) (W : World) : (Instr.sliceAt 28 (.slice (some ⟨g, 0, none⟩) 96 96) (some (.int .i64 32)) (some (.int .i64 64)) none).run Tryd.prog W = .ok (.slice (some ⟨g, 32, none⟩) 32 64) W := by kernel_rfl
theorem sl_2 (g : Nat) (W : World) : (Instr.sliceAt 28 (.slice (some ⟨g, 0, none⟩) 96 96) (some (.int .i64 64)) none none).run Tryd.prog W = .ok (.slice (some ⟨g, 64, none⟩) 32 32) W := by kernel_rfl
theorem bys_rowF {W : World} {g n : Nat} {l : List Int} {t : TypeId} {fr : Nat × Nat} (hg : W.heap[g]? = some (.cells (irow .u8 l) t fr)) (hl : l.length ≤ 9223372036854775807) (hz : ∀ z ∈ l, 0 ≤ z ∧ z < 256) (hn : l.length = n) {cap : Nat} : Bys W (.slice (some ⟨g, 0, none⟩) n cap) l := by
  subst hn
  refine ⟨_, _, rfl, hl, fun j hj => ⟨g, 0, rfl, lt_of_row hg, ?_⟩, hz⟩
  rw [Nat.zero_add, cell_of_row _ _ _ _ _ _ hg]
  simp [irow, List.getD_eq_getElem?_getD, List.getElem?_eq_getElem hj]
theorem arr_k (g o c : Nat) (W : World) : (Instr.arrayAt 23 (.slice (some ⟨g, o, none⟩) 32 c)).run Tryd.prog W = .ok (.pointer (some ⟨g, o, none⟩)) W := by kernel_rfl
/-- The secrets' cells. -/
def scr (a b c : List Int) (v : Value) : Array Value := (k8 a ++ (k8 b ++ (k8 c ++ ([v] ++ [])))).toArray
theorem scr_size (a b c : List Int) (v : Value) (ha : a.length = 32) (hb : b.length = 32) (hc : c.length = 32) : (scr a b c v).size = 97 := by simp [scr, k8_len, ha, hb, hc]
theorem scr_one (a b c : List Int) (v : Value) (hv : v.oneCell' = true) : (scr a b c v).all (·.oneCell') = true := by
  rw [scr, List.all_toArray, List.all_eq_true]
  intro u hu
  simp only [List.mem_append, List.mem_cons, List.not_mem_nil, or_false] at hu
  rcases hu with hu | hu | hu | rfl
  · exact k8_one _ _ hu
  · exact k8_one _ _ hu
  · exact k8_one _ _ hu
  · exact hv
theorem sc_a (a b c : List Int) (v : Value) (ha : a.length = 32) : (scr a b c v).extract 0 (0 + (irow .u8 a).size) = irow .u8 a := by
  rw [irow_size, ha]
  exact extr [] (k8 a) _ 0 32 rfl (by rw [k8_len, ha])
theorem sc_b (a b c : List Int) (v : Value) (ha : a.length = 32) (hb : b.length = 32) : (scr a b c v).extract 32 (32 + (irow .u8 b).size) = irow .u8 b := by
  rw [irow_size, hb]
  exact extr (k8 a) (k8 b) _ 32 32 (by rw [k8_len, ha]) (by rw [k8_len, hb])
theorem sc_c (a b c : List Int) (v : Value) (ha : a.length = 32) (hb : b.length = 32) (hc : c.length = 32) : (scr a b c v).extract 64 (64 + (irow .u8 c).size) = irow .u8 c := by
  have e : k8 a ++ (k8 b ++ (k8 c ++ ([v] ++ []))) = (k8 a ++ k8 b) ++ (k8 c ++ ([v] ++ [])) := by simp
  rw [irow_size, hc, scr, e]
  exact extr (k8 a ++ k8 b) (k8 c) _ 64 32 (by simp [k8_len, ha, hb]) (by rw [k8_len, hc])
theorem sc_v (a b c : List Int) (v : Value) (ha : a.length = 32) (hb : b.length = 32) (hc : c.length = 32) : (scr a b c v)[96]? = some v := by
  have e : k8 a ++ (k8 b ++ (k8 c ++ ([v] ++ []))) = (k8 a ++ (k8 b ++ k8 c)) ++ ([v] ++ []) := by simp
  rw [scr, e]
  exact getx (k8 a ++ (k8 b ++ k8 c)) [v] [] 96 0 (by simp [k8_len, ha, hb, hc]) (by simp)
theorem sc_put (a b c : List Int) (v u : Value) (ha : a.length = 32) (hb : b.length = 32) (hc : c.length = 32) : (scr a b c v).setIfInBounds 96 u = scr a b c u := by
  have e : ∀ x : Value, k8 a ++ (k8 b ++ (k8 c ++ ([x] ++ []))) = (k8 a ++ (k8 b ++ k8 c)) ++ [x] := by simp
  have l : (k8 a ++ (k8 b ++ k8 c)).length = 96 := by simp [k8_len, ha, hb, hc]
  rw [scr, scr, e, e, List.setIfInBounds_toArray, ← l, List.set_append_right _ _ (Nat.le_refl _), Nat.sub_self]
  rfl
theorem info_scr (a b c : List Int) (v : Value) (ha : a.length = 32) (hb : b.length = 32) (hc : c.length = 32) : (Tryd.prog.info? 30).map (·.size) = some (scr a b c v).size := by rw [scr_size a b c v ha hb hc]; kernel_rfl
theorem fit_scr (a b c : List Int) (v : Value) (ha : a.length = 32) (hb : b.length = 32) (hc : c.length = 32) (x y z : List Int) (u : Value) (hx : x.length = 32) (hy : y.length = 32) (hz : z.length = 32) : (scr a b c v).size = (scr x y z u).size := by rw [scr_size a b c v ha hb hc, scr_size x y z u hx hy hz]
def scz : Array Value := scr (zr 32) (zr 32) (zr 32) (.slice none 0 0)
theorem zScA (W : World) : (Instr.alloc 30 true (.tuple #[])).run Tryd.prog W = .ok (.pointer (some ⟨W.heap.size, 0, none⟩)) (W.alloc (.cells scz 30)) := by kernel_rfl
theorem builtZc : Tryd.prog.built 30 [] = some scz := by kernel_rfl
theorem box_scr (cs : Array Value) (W : World) : (Instr.box 30 (.agg cs)).run Tryd.prog W = .ok (.pointer (some ⟨W.heap.size, 0, none⟩)) (W.alloc (.cells cs 30)) := by kernel_rfl
theorem built_sc (a b c : List Int) (ha : a.length = 32) (hb : b.length = 32) (hc : c.length = 32) : Tryd.prog.built 30 [(0, .agg (irow .u8 a)), (1, .agg (irow .u8 b)), (2, .agg (irow .u8 c))] = some (scr a b c (.slice none 0 0)) := by
  obtain ⟨a0, a1, a2, a3, a4, a5, a6, a7, a8, a9, a10, a11, a12, a13, a14, a15, a16, a17, a18, a19, a20, a21, a22, a23, a24, a25, a26, a27, a28, a29, a30, a31, rfl⟩ := len32 a ha
  obtain ⟨b0, b1, b2, b3, b4, b5, b6, b7, b8, b9, b10, b11, b12, b13, b14, b15, b16, b17, b18, b19, b20, b21, b22, b23, b24, b25, b26, b27, b28, b29, b30, b31, rfl⟩ := len32 b hb
  obtain ⟨c0, c1, c2, c3, c4, c5, c6, c7, c8, c9, c10, c11, c12, c13, c14, c15, c16, c17, c18, c19, c20, c21, c22, c23, c24, c25, c26, c27, c28, c29, c30, c31, rfl⟩ := len32 c hc
  kernel_rfl
/-- What the secrets are made of, and their 96 bytes. -/
def agn : List Int := [112, 97, 119, 108, 32, 97, 103, 114, 101, 101]
theorem agn_bd : ∀ z ∈ agn, 0 ≤ z ∧ z < 256 := by decide
def sec (ks : List (List Int)) : List Int := List.replicate 32 255 ++ ks.flatten
def scb (ks : List (List Int)) : List Int := xpd (hm (zr 32) (sec ks)) agn 96
theorem scb_len (ks : List (List Int)) : (scb ks).length = 96 := xpd_len _ _ _
theorem scb_bd (ks : List (List Int)) : ∀ z ∈ scb ks, 0 ≤ z ∧ z < 256 := xpd_bd _ _ _
/-- A list of bytes of one's own. -/
def OwnI (W : World) (b : Nat) (v : Value) (l : List Int) : Prop := W.ownsRow b 5 1 v l.length (l.map (Value.int .u8))
theorem OwnI.move {W W' : World} {b : Nat} {v : Value} {l : List Int} (h : OwnI W b v l) (hm : ∀ g o, v.ownBlock = some g → W.heap[g]? = some o → W'.heap[g]? = some o) : OwnI W' b v l := by
  obtain ⟨h1, h2 | ⟨g, cap, cur, e, hbg, hg, h3⟩⟩ := h
  · exact ⟨h1, .inl h2⟩
  · exact ⟨h1, .inr ⟨g, cap, cur, e, hbg, hm g _ (by rw [e]; rfl) hg, h3⟩⟩
theorem OwnI.keep {W W' : World} {b : Nat} {v : Value} {l : List Int} (h : OwnI W b v l) (hb : Below W.heap.size W W') : OwnI W' b v l := h.move (fun _ _ _ hg => Go.Proofs.YtkpjpdlamojejaaDoor.keep hb hg)
theorem OwnI.lt {W : World} {b : Nat} {v : Value} {l : List Int} (h : OwnI W b v l) : ∀ k, v.ownBlock = some k → b ≤ k ∧ k < W.heap.size := World.ownsRow.lt h
theorem OwnI.down {W : World} {b c : Nat} {v : Value} {l : List Int} (h : OwnI W b v l) (hc : c ≤ b) : OwnI W c v l := by
  obtain ⟨h1, h2 | ⟨g, cap, cur, e1, hb, h3⟩⟩ := h
  · exact ⟨h1, .inl h2⟩
  · exact ⟨h1, .inr ⟨g, cap, cur, e1, Nat.le_trans hc hb, h3⟩⟩
theorem OwnI.form {W : World} {b : Nat} {v : Value} {l : List Int} (h : OwnI W b v l) : ∃ ao cap, v = .slice ao l.length cap := by
  obtain ⟨_, ⟨rfl, h0⟩ | ⟨g, cap, cur, rfl, _⟩⟩ := h
  · exact ⟨none, 0, by rw [h0]⟩
  · exact ⟨_, _, rfl⟩
/-- A list of bytes under way: one's own, or the beginning of a block. -/
def Sec (W : World) (b : Nat) (v : Value) (l : List Int) : Prop := OwnI W b v l ∨ ∃ G cs, v = .slice (some ⟨G, 0, none⟩) l.length l.length ∧ b ≤ G ∧ W.heap[G]? = some (.cells cs 5 (0, 0)) ∧ cs.toList.take l.length = l.map (Value.int .u8)
theorem Sec.keep {W W' : World} {b : Nat} {v : Value} {l : List Int} (h : Sec W b v l) (hb : Below W.heap.size W W') : Sec W' b v l := by
  rcases h with h | ⟨G, cs, rfl, h1, h2, h3⟩
  · exact .inl (h.keep hb)
  · exact .inr ⟨G, cs, rfl, h1, Go.Proofs.YtkpjpdlamojejaaDoor.keep hb h2, h3⟩
theorem Sec.lt {W : World} {b : Nat} {v : Value} {l : List Int} (h : Sec W b v l) : ∀ k, v.ownBlock = some k → b ≤ k := by
  rcases h with h | ⟨G, cs, rfl, h1, h2, h3⟩
  · exact fun k hk => (World.ownsRow.lt h k hk).1
  · intro k hk; cases hk; exact h1
theorem Sec.bys {W : World} {b : Nat} {v : Value} {l : List Int} (h : Sec W b v l) (hl : l.length ≤ 9223372036854775807) (hz : ∀ z ∈ l, 0 ≤ z ∧ z < 256) : Bys W v l ∧ ∀ a n c, v = .slice a n c → n ≤ c := by
  rcases h with ⟨_, ⟨rfl, h0⟩ | ⟨g, cap, cur, rfl, _, hg, hnc, _, _, ht⟩⟩ | ⟨G, cs, rfl, h1, h2, h3⟩
  · refine ⟨⟨none, 0, by rw [h0], hl, fun j hj => by omega, hz⟩, fun a n c e => by cases e; exact Nat.le_refl _⟩
  · refine ⟨⟨_, cap, rfl, hl, fun j hj => ⟨g, 0, rfl, lt_of_row hg, ?_⟩, hz⟩, fun a n c e => by cases e; exact hnc⟩
    rw [Nat.zero_add, cell_of_row _ _ _ _ _ _ hg]
    have e : (cur.toList.take (l.length * 1))[j]? = (l.map (Value.int .u8))[j]? := by rw [ht]
    rw [Nat.mul_one, List.getElem?_take_of_lt hj] at e
    simpa [List.getD_eq_getElem?_getD, List.getElem?_eq_getElem hj] using e
  · refine ⟨⟨_, _, rfl, hl, fun j hj => ⟨G, 0, rfl, lt_of_row h2, ?_⟩, hz⟩, fun a n c e => by cases e; exact Nat.le_refl _⟩
    rw [Nat.zero_add, cell_of_row _ _ _ _ _ _ h2]
    have e : (cs.toList.take l.length)[j]? = (l.map (Value.int .u8))[j]? := by rw [h3]
    rw [List.getElem?_take_of_lt hj] at e
    simpa [List.getD_eq_getElem?_getD, List.getElem?_eq_getElem hj] using e
theorem infB : ∃ i, Tryd.prog.info? 5 = some i ∧ i.zero = some (.int .u8 0) ∧ i.size = 1 ∧ i.bytes = 1 := ⟨_, rfl, rfl, rfl, rfl⟩
theorem wp_append_sec {w : World} {o : Oper} {a : Act} {K : Act → World → Prop} {Q : Exit → Act → World → Prop} (s x : Operand) (ho : o.op = .call { callee := .builtin .append, args := #[s, x], argTypes := #[28, 28] })
    (base : Nat) (v : Value) (l : List Int) (hs : a.eval s = v) (hI : Sec w base v l) (ad : Addr) (key : List Int) (c : Nat) (hx : a.eval x = .slice (some ad) key.length c) (hn : ∀ j u, (key.map (Value.int .u8))[j]? = some u → w.cell? (ad.add j) = some u) (hp : 0 < key.length) (hlen : l.length + key.length ≤ 1000000) (hbase : base ≤ w.heap.size)
    (h : ∀ v' w', OwnI w' base v' (l ++ key) → w.grownBy w' v.ownBlock → K (a.put o.dst v') w') : o.wp Tryd.prog a w K Q := by
  obtain ⟨i0, hi, hz0, hz1, hz2⟩ := infB
  have hfin : ∀ v' w', w'.ownsRow base 5 1 v' (l.length + key.length) (l.map (Value.int .u8) ++ key.map (Value.int .u8)) → OwnI w' base v' (l ++ key) := fun v' w' h1 => by
    unfold OwnI
    rw [List.length_append, List.map_append]
    exact h1
  rcases hI with hI | ⟨G, cs, rfl, hG, hg, ht⟩
  · obtain ⟨v', w', hr, h2, h3, h4⟩ := run_append_own (P := Tryd.prog) w base 28 o.type 5 i0 (.int .u8 0) 1 1 Tryd.underlying28 hi hz0 hz1 hz2 rfl (by decide) v l.length (l.map (Value.int .u8)) hI ad key.length c (key.map (Value.int .u8)) (by simp) hn (ints_one .u8 _) (by unfold maxLen; omega) (by omega) hbase
    unfold Oper.wp execOp
    simp only [ho, resolve, invoke, builtin, Sem.run_bind, Sem.run_pure, Result.andThen_ok, List.map_toArray, List.map_cons, List.map_nil, hs, hx, hr]
    exact h v' w' (hfin v' w' h2) h3
  · have hold : ∀ j u, (l.map (Value.int .u8))[j]? = some u → w.cell? ((⟨G, 0, none⟩ : Addr).add j) = some u := by
      intro j u hj
      have hjl : j < l.length := by simpa using (List.getElem?_eq_some_iff.1 hj).1
      rw [addr_add, Nat.zero_add, cell_of_row _ _ _ _ _ _ hg, ← hj, ← ht, List.getElem?_take_of_lt hjl]
      simp
    have hr := run_append_grow (P := Tryd.prog) w 28 o.type 5 i0 (.int .u8 0) Tryd.underlying28 hi hz0 ⟨G, 0, none⟩ l.length l.length (l.map (Value.int .u8)) (by simp [hz1]) hold ad key.length c (key.map (Value.int .u8)) (by simp [hz1]) hn (by omega) (by omega) (growslice_fits (by omega) (by rw [hz2]; omega))
    have hge := grownCap_ge w (l.length + key.length) l.length 5
    have hcm : grownCap w (l.length + key.length) l.length 5 ≤ maxLen := grownCap_le_maxLen w (l.length + key.length) l.length 5 (by unfold maxLen; omega)
    unfold Oper.wp execOp
    simp only [ho, resolve, invoke, builtin, Sem.run_bind, Sem.run_pure, Result.andThen_ok, List.map_toArray, List.map_cons, List.map_nil, hs, hx, hr]
    refine h _ _ (hfin _ _ ⟨by simp, .inr ⟨w.heap.size, _, _, rfl, hbase, Go.heap_alloc_new w.drew _, hge, hcm, ?_, ?_⟩⟩) ⟨rfl, rfl, rfl, by simp, fun k hk _ => Go.heap_alloc_old w.drew _ hk⟩
    · simp only [Array.size_append, List.size_toArray, size_zeroCells, List.length_map]
      simp only [Value.cells, List.size_toArray, List.length_singleton]
      omega
    · simp only [Array.toList_append, List.append_assoc, Nat.mul_one]
      rw [← List.append_assoc]
      exact List.take_left' (by simp)
theorem wpList_append_sec {w : World} {ops : Array Oper} {rest : List Oper} {o : Oper} {a : Act} {Q : Exit → Act → World → Prop} (hgd : o.guard = none) (s x : Operand) (ho : o.op = .call { callee := .builtin .append, args := #[s, x], argTypes := #[28, 28] })
    (base : Nat) (v : Value) (l : List Int) (hs : a.eval s = v) (hI : Sec w base v l) (ad : Addr) (key : List Int) (c : Nat) (hx : a.eval x = .slice (some ad) key.length c) (hn : ∀ j u, (key.map (Value.int .u8))[j]? = some u → w.cell? (ad.add j) = some u) (hp : 0 < key.length) (hlen : l.length + key.length ≤ 1000000) (hbase : base ≤ w.heap.size)
    (h : ∀ v' w', OwnI w' base v' (l ++ key) → w.grownBy w' v.ownBlock → wpList Tryd.prog ops Q rest (a.put o.dst v') w') : wpList Tryd.prog ops Q (o :: rest) a w :=
  wpList_plain hgd fun _ hK => wp_append_sec s x ho base v l hs hI ad key c hx hn hp hlen hbase (fun v' w' h1 h2 => hK _ _ (h v' w' h1 h2))

end Go.Proofs.YtkpjpdlamojejaaDoor

namespace Go.Proofs.YtkpjpdlamojejaaDoor
set_option maxRecDepth 100000
open Go Go.RowKit Go.Sort
attribute [local go_sem] setCell_drewN alloc_drewN

theorem agn_bys (W : World) : Bys (W.alloc (.cells #[.int .u8 112, .int .u8 97, .int .u8 119, .int .u8 108, .int .u8 32, .int .u8 97, .int .u8 103, .int .u8 114, .int .u8 101, .int .u8 101] 5 (10, 11))) (.slice (some ⟨W.heap.size, 0, none⟩) 10 10) agn := bys_rowF (l := agn) (hp1_0 W _) (by decide) agn_bd rfl
theorem run_bs1 (W : World) : (Instr.buildSlice 28 1 #[(0, .int .u8 255)]).run Tryd.prog W = .ok (.slice (some ⟨W.heap.size, 0, none⟩) 1 1) (W.alloc (.cells #[.int .u8 255] 5)) := by kernel_rfl
theorem run_mk32 (W : World) : (Instr.makeSlice 28 (.int .i64 32) (.int .i64 32)).run Tryd.prog W = .ok (.slice (some ⟨W.heap.size, 0, none⟩) 32 32) (W.alloc (.cells (irow .u8 (zr 32)) 5)) := by kernel_rfl
theorem wpList_wop {P : Program} {ops : Array Oper} {rest : List Oper} {o : Oper} {a : Act} {w : World} {Q : Exit → Act → World → Prop} (hgd : o.guard = none) (v : Value) (w' : World) (hr : (execOp a.eval o).run P w = .ok (.value v) w') (h : wpList P ops Q rest (a.put o.dst v) w') : wpList P ops Q (o :: rest) a w :=
  wpList_plain hgd fun _ hK => wp_world_op _ _ hr (hK _ _ h)
theorem run_bs10 (W : World) : (Instr.buildSlice 28 10 #[(0, .int .u8 112), (1, .int .u8 97), (2, .int .u8 119), (3, .int .u8 108), (4, .int .u8 32), (5, .int .u8 97), (6, .int .u8 103), (7, .int .u8 114), (8, .int .u8 101), (9, .int .u8 101)]).run Tryd.prog W = .ok (.slice (some ⟨W.heap.size, 0, none⟩) 10 10) (W.alloc (.cells #[.int .u8 112, .int .u8 97, .int .u8 119, .int .u8 108, .int .u8 32, .int .u8 97, .int .u8 103, .int .u8 114, .int .u8 101, .int .u8 101] 5)) := by kernel_rfl
theorem wpList_bs10 {ops : Array Oper} {rest : List Oper} {o : Oper} {a : Act} {w : World} {Q : Exit → Act → World → Prop} (hgd : o.guard = none) (ho : o.op = .buildSlice 28 10 #[(0, .const (.int .u8 112)), (1, .const (.int .u8 97)), (2, .const (.int .u8 119)), (3, .const (.int .u8 108)), (4, .const (.int .u8 32)), (5, .const (.int .u8 97)), (6, .const (.int .u8 103)), (7, .const (.int .u8 114)), (8, .const (.int .u8 101)), (9, .const (.int .u8 101))])
    (h : wpList Tryd.prog ops Q rest (a.put o.dst (.slice (some ⟨w.heap.size, 0, none⟩) 10 10)) (w.alloc (.cells #[.int .u8 112, .int .u8 97, .int .u8 119, .int .u8 108, .int .u8 32, .int .u8 97, .int .u8 103, .int .u8 114, .int .u8 101, .int .u8 101] 5))) : wpList Tryd.prog ops Q (o :: rest) a w := by
  refine wpList_wop hgd _ _ ?_ h
  have hr := run_bs10 w
  unfold execOp
  simp only [ho, Sem.run_bind, Sem.run_pure, List.map_toArray, List.map_cons, List.map_nil, Act.eval, hr, Result.andThen_ok]
theorem wpList_mk32 {ops : Array Oper} {rest : List Oper} {o : Oper} {a : Act} {w : World} {Q : Exit → Act → World → Prop} (hgd : o.guard = none) (ho : o.op = .makeSlice 28 (.const (.int .i64 32)) (.const (.int .i64 32)))
    (h : wpList Tryd.prog ops Q rest (a.put o.dst (.slice (some ⟨w.heap.size, 0, none⟩) 32 32)) (w.alloc (.cells (irow .u8 (zr 32)) 5))) : wpList Tryd.prog ops Q (o :: rest) a w := by
  refine wpList_wop hgd _ _ ?_ h
  have hr := run_mk32 w
  unfold execOp
  simp only [ho, Sem.run_bind, Sem.run_pure, Act.eval, hr, Result.andThen_ok]
theorem wpList_cv {ops : Array Oper} {rest : List Oper} {o : Oper} {a : Act} {w w' : World} {Q : Exit → Act → World → Prop} (hgd : o.guard = none) (x : Operand) (ho : o.op = .convert 28 28 x) (v v' : Value) (hx : a.eval x = v) (hr : (convert 28 28 v).run Tryd.prog w = .ok v' w')
    (h : wpList Tryd.prog ops Q rest (a.put o.dst v') w') : wpList Tryd.prog ops Q (o :: rest) a w := by
  refine wpList_wop hgd _ _ ?_ h
  unfold execOp
  simp only [ho, hx, Sem.run_bind, Sem.run_pure, hr, Result.andThen_ok]
theorem sec_len (ks : List (List Int)) (h : ∀ k ∈ ks, k.length = 32) : (sec ks).length = 32 + 32 * ks.length := by
  have : ks.flatten.length = 32 * ks.length := by
    induction ks with
    | nil => rfl
    | cons k r ih => rw [List.flatten_cons, List.length_append, h k (by simp), ih (fun x hx => h x (by simp [hx])), List.length_cons]; omega
  rw [sec, List.length_append, List.length_replicate, this]
theorem sec_bd (ks : List (List Int)) (h : ∀ k ∈ ks, K8 k) : ∀ z ∈ sec ks, 0 ≤ z ∧ z < 256 := by
  intro z hz
  rw [sec, List.mem_append, List.mem_replicate, List.mem_flatten] at hz
  rcases hz with ⟨_, rfl⟩ | ⟨k, hk, hz⟩
  · omega
  · exact (h k hk).2 z hz
theorem zr_bd32 : ∀ z ∈ zr 32, 0 ≤ z ∧ z < 256 := by intro z hz; simp [zr] at hz; omega
theorem sec_nil : sec [] = List.replicate 32 255 := by simp [sec]
theorem sec_snoc (l : List (List Int)) (k : List Int) : sec (l ++ [k]) = sec l ++ k := by simp [sec]
theorem sec0 {W : World} {B G : Nat} {cs : Array Value} (hG : B ≤ G) (hg : W.heap[G]? = some (.cells cs 5 (0, 0))) (ht : cs.toList.take 32 = List.replicate 32 (.int .u8 255)) : Sec W B (.slice (some ⟨G, 0, none⟩) 32 32) (sec []) := by
  rw [sec_nil]
  exact .inr ⟨G, cs, by rw [List.length_replicate], hG, hg, by rw [List.length_replicate, List.map_replicate]; exact ht⟩
set_option maxRecDepth 100000 in
set_option maxHeartbeats 4000000 in
theorem a_secretsOf (ks : List (List Int)) (hks : ∀ k ∈ ks, K8 k) (h1 : 0 < ks.length) (h4 : ks.length ≤ 4) (b : Nat) (v : Value) (w : World) (hv : OwnE 23 32 w b v ks) (hS : Sta w) (hK : Kon w) : Calls Tryd.prog 17 #[v] w fun e w' => e = .returned (.agg (scr (pt (scb ks) 0 32) (pt (scb ks) 32 32) (pt (scb ks) 64 32) (.slice none 0 0))) ∧ Below w.heap.size w w' := by
  have hkl : ∀ k ∈ ks, k.length = 32 := fun k hk => (hks k hk).1
  obtain ⟨gv, cap, _, rfl, -, -⟩ := hv.part hkl 0 h1
  have hgv := (hv.lt gv rfl).2
  have kz0 := hK.sz
  have sz0 := hS.sz
  have R0 := hp1_0 w (.cells scz 30)
  have hw : Below w.heap.size w (w.alloc (.cells scz 30)) := (Below.refl _ _).alloc (Nat.le_refl _) _
  go_enter Tryd.func17, Tryd.ntmps17
  go_upto_region 1 with (first | (refine wpList_alloc rfl 30 rfl scz zScA ?_) | fail)
  try simp only [Act.put, List.setIfInBounds_toArray, List.set_cons_succ, List.set_cons_zero]
  generalize w.alloc (.cells scz 30) = w1 at *
  replace hv := hv.keep hw
  replace hS := hS.below hw
  replace hK := hK.below hw
  have z_ := hp1_0 w1 (.cells #[.int .u8 255] 5)
  have hb_ : Below w1.heap.size w1 (w1.alloc (.cells #[.int .u8 255] 5)) := (Below.refl _ _).alloc (Nat.le_refl _) _
  have hbs := run_bs1 w1
  go_wp2_with (fail)
  try simp only [Act.put, List.setIfInBounds_toArray, List.set_cons_succ, List.set_cons_zero]
  have lt0 := lt_of_row R0
  clear hbs
  replace R0 := keep hb_ R0
  replace hv := hv.keep hb_
  replace hS := hS.below hb_
  replace hK := hK.below hb_
  replace hw := Below.after hw hb_
  clear hb_
  generalize w1.alloc (.cells #[.int .u8 255] 5) = w2 at *
  generalize w1.heap.size = g2 at *
  refine (a_repeat w2 g2 z_).mono ?_
  rintro e_ w3 ⟨G, cs, rfl, hG, hg, ht, hb⟩
  have szw := hw.size
  have ltr := lt_of_row R0
  replace R0 := keep hb R0
  replace hv := hv.keep hb
  replace hS := hS.below hb
  replace hK := hK.below hb
  replace hw := Below.after hw hb
  have hsec : Sec w3 w2.heap.size (.slice (some ⟨G, 0, none⟩) 32 32) (sec []) := sec0 hG hg ht
  have sz23 := hb.size
  clear hb z_ hg ht
  have ltv : w.heap.size < w2.heap.size := ltr
  generalize w2.heap.size = B at *
  go_wp2_with (fail)
  go_loopw [3, 12] (fun s i wr => ∃ k : Nat, k ≤ ks.length ∧ i = .int .i64 k ∧ Sec wr B s (sec (ks.take k)) ∧ Below B w3 wr) (fun _ i _ => ks.length - (intOf i).toNat)
  case atStart => exact ⟨0, by omega, rfl, hsec, Below.refl _ _⟩
  case round =>
    obtain ⟨k, hk, rfl, hsec, hb⟩ := hrel
    by_cases hlt : k < ks.length
    · have hd : decide ((k : Int) < (ks.length : Int)) = true := by simp; omega
      have hvr := hv.move (fun g o e hg => by cases e; exact (hb.block gv (by omega)).trans hg)
      obtain ⟨g1, cap1, cur, hvv, r1, x1⟩ := hvr.part hkl k hlt
      cases hvv
      have hmem : ks.getD k [] ∈ ks := by rw [List.getD_eq_getElem?_getD, List.getElem?_eq_getElem hlt]; exact List.getElem_mem _
      have hm := hkl _ hmem
      have hk1 : sec (ks.take (k + 1)) = sec (ks.take k) ++ ks.getD k [] := by
        rw [List.take_add_one, List.getElem?_eq_getElem hlt, List.getD_eq_getElem?_getD, List.getElem?_eq_getElem hlt]
        exact sec_snoc _ _
      have hsl : (sec (ks.take k)).length + 32 ≤ 1000000 := by
        rw [sec_len _ (fun x hx => hkl x (List.mem_of_mem_take hx)), List.length_take]; omega
      generalize ks.getD k [] = m at *
      generalize sec (ks.take k) = S at *
      clear hvr
      have z_ := hp1_0 wr (.cells (irow .u8 (zr 32)) 23)
      go_upto_region 4 with (fail)
      repeat ((fail_if_success (refine wpList_load_part rfl 23 _ rfl gv (k * 32) rfl 23 cur (0, 0) (irow .u8 m) _ r1 x1 Tryd.underlying23 rfl (infoKy m hm) ?_)); first | go_skip | go_step)
      refine wpList_load_part rfl 23 _ rfl gv (k * 32) rfl 23 cur (0, 0) (irow .u8 m) _ r1 x1 Tryd.underlying23 rfl (infoKy m hm) ?_
      repeat ((fail_if_success (refine wpList_alloc rfl 23 rfl (irow .u8 (zr 32)) zkey ?_)); first | go_skip | go_step)
      refine wpList_alloc rfl 23 rfl (irow .u8 (zr 32)) zkey ?_
      repeat ((fail_if_success (refine wpList_store_row rfl 23 _ _ rfl (wr.heap.size) (irow .u8 m) rfl rfl 23 _ z_ (infoKy m hm) (fitN 32 _ _ (zr_len 32) hm) (irow_one _ _) ?_)); first | go_skip | go_step)
      refine wpList_store_row rfl 23 _ _ rfl (wr.heap.size) (irow .u8 m) rfl rfl 23 _ z_ (infoKy m hm) (fitN 32 _ _ (zr_len 32) hm) (irow_one _ _) ?_
      have R1 := setRow_heap (wr.alloc (.cells (irow .u8 (zr 32)) 23)) wr.heap.size _ (irow .u8 m) _ _ z_
      have hb_ : Below wr.heap.size wr ((wr.alloc (.cells (irow .u8 (zr 32)) 23)).setRow wr.heap.size (irow .u8 m)) := below_setRow ((Below.refl _ _).alloc (Nat.le_refl _) _) (Nat.le_refl _) _
      have szr := hb.size
      replace hsec := hsec.keep hb_
      replace hb := hb.trans (hb_.mono (Nat.le_trans sz23 szr))
      have szz := hb_.size
      clear hb_ z_ r1 x1
      try simp only [Act.put, List.setIfInBounds_toArray, List.set_cons_succ, List.set_cons_zero]
      generalize (wr.alloc (.cells (irow .u8 (zr 32)) 23)).setRow wr.heap.size (irow .u8 m) = w4 at *
      generalize wr.heap.size = g4 at *
      have sk := slice_k g4
      have hnews := row_news R1
      replace hk1 := hide hk1
      go_upto_region 5 with (fail)
      repeat ((fail_if_success (refine wpList_append_sec rfl _ _ rfl B _ _ rfl hsec ⟨g4, 0, none⟩ m 32 (by rw [hm]; rfl) hnews (by omega) (by omega) (by omega) (fun v' w' hO4 hgr => ?_))); first | go_skip | go_step)
      refine wpList_append_sec rfl _ _ rfl B _ _ rfl hsec ⟨g4, 0, none⟩ m 32 (by rw [hm]; rfl) hnews (by omega) (by omega) (by omega) (fun v' w' hO4 hgr => ?_)
      have hb4 := hb.grown hgr (by omega) (fun q e => hsec.lt q e)
      clear hgr hsec hb sk
      go_wp2_with (fail)
      refine ⟨⟨k + 1, by omega, by go_num, by rw [hk1.out]; exact .inl hO4, hb4⟩, ?_⟩
      simp [intOf]; omega
    · obtain rfl : k = ks.length := by omega
      have hd : decide ((ks.length : Int) < (ks.length : Int)) = false := by simp
      rw [List.take_length] at hsec
      have hsz := hb.size
      have fS := hS.belowN (by omega) hb
      have fK := hK.belowN (by omega) hb
      have Rr := (hb.block w.heap.size ltv).trans R0
      have hwr := hw.trans (hb.mono szw)
      obtain ⟨hB1, hB2⟩ := hsec.bys (by rw [sec_len ks hkl]; omega) (sec_bd ks hks)
      clear hS hK R0 hw hb hsec hv
      go_upto_region 7 with (fail)
      repeat ((fail_if_success (refine wpList_mk32 rfl rfl ?_)); first | go_skip | go_step)
      refine wpList_mk32 rfl rfl ?_
      have q1 := hp1_0 wr (.cells (irow .u8 (zr 32)) 5)
      have hb_ : Below wr.heap.size wr (wr.alloc (.cells (irow .u8 (zr 32)) 5)) := (Below.refl _ _).alloc (Nat.le_refl _) _
      have ltR := lt_of_row Rr
      replace Rr := keep hb_ Rr
      replace fS := fS.below hb_
      replace fK := fK.below hb_
      replace hB1 := hB1.keep hb_
      replace hwr := Below.after hwr hb_
      clear hb_
      try simp only [Act.put, List.setIfInBounds_toArray, List.set_cons_succ, List.set_cons_zero]
      generalize wr.alloc (.cells (irow .u8 (zr 32)) 5) = w4 at *
      generalize wr.heap.size = g4 at *
      repeat ((fail_if_success (refine wpList_bs10 rfl rfl ?_)); first | go_skip | go_step)
      refine wpList_bs10 rfl rfl ?_
      try simp only [Act.put, List.setIfInBounds_toArray, List.set_cons_succ, List.set_cons_zero]
      refine wpList_cv rfl _ rfl _ (.slice (some ⟨w4.heap.size, 0, none⟩) 10 10) rfl (Go.Lib.run_convert_bytes_const (P := Tryd.prog) w4 28 5 #[.int .u8 112, .int .u8 97, .int .u8 119, .int .u8 108, .int .u8 32, .int .u8 97, .int .u8 103, .int .u8 114, .int .u8 101, .int .u8 101] 10 10 Tryd.underlying28 Tryd.underlying5) ?_
      have hN := agn_bys w4
      have hb_ : Below w4.heap.size w4 (w4.alloc (.cells #[.int .u8 112, .int .u8 97, .int .u8 119, .int .u8 108, .int .u8 32, .int .u8 97, .int .u8 103, .int .u8 114, .int .u8 101, .int .u8 101] 5 (10, 11))) := (Below.refl _ _).alloc (Nat.le_refl _) _
      have lt4 := lt_of_row q1
      replace q1 := keep hb_ q1
      replace Rr := keep hb_ Rr
      replace fS := fS.below hb_
      replace fK := fK.below hb_
      replace hB1 := hB1.keep hb_
      replace hwr := Below.after hwr hb_
      clear hb_
      try simp only [Act.put, List.setIfInBounds_toArray, List.set_cons_succ, List.set_cons_zero]
      generalize w4.alloc (.cells #[.int .u8 112, .int .u8 97, .int .u8 119, .int .u8 108, .int .u8 32, .int .u8 97, .int .u8 103, .int .u8 114, .int .u8 101, .int .u8 101] 5 (10, 11)) = w5 at *
      generalize w4.heap.size = g5 at *
      have hA : Bys w5 (.slice (some ⟨g4, 0, none⟩) 32 32) (zr 32) := by
        have h := Bys.of_row q1 (by rw [zr_len]; omega) zr_bd32 32
        rw [zr_len] at h
        exact h
      have hR : Hid (scb ks = xpd (hm (zr 32) (sec ks)) agn 96) := hide rfl
      have hsl5 := sec_len ks hkl
      have cD := a_derive (zr 32) (sec ks) agn 96 w5 (.slice (some ⟨g4, 0, none⟩) 32 32) u3 (.slice (some ⟨g5, 0, none⟩) 10 10) fS fK hA (fun a l c h => by cases h; exact Nat.le_refl _) (by rw [zr_len]; omega) hB1 hB2 (by omega) hN (fun a l c h => by cases h; exact Nat.le_refl _) (by decide)
      clear hA hB1 hB2 hN fS fK hsl5
      go_wp2_with (fail)
      refine cD.mono ?_
      rintro e_ w6 ⟨v_, rfl, hX, hb⟩
      obtain ⟨m_, g, hm_, _, rfl, lg, rg⟩ | ⟨hm_, _⟩ := hX
      rotate_left
      · exact absurd hm_ (by decide)
      obtain rfl : m_ = 96 := by omega
      clear hm_ cD
      rw [← hR.out] at rg
      have ltR6 := lt_of_row Rr
      replace Rr := keep hb Rr
      replace hwr := Below.after hwr hb
      clear hb
      have hxl := scb_len ks
      have l0 : (pt (scb ks) 0 32).length = 32 := pt_len _ _ _ (by omega)
      have l32 : (pt (scb ks) 32 32).length = 32 := pt_len _ _ _ (by omega)
      have l64 : (pt (scb ks) 64 32).length = 32 := pt_len _ _ _ (by omega)
      have x0 := pt_ext (scb ks) 0 32 .u8 (by omega)
      have x32 := pt_ext (scb ks) 32 32 .u8 (by omega)
      have x64 := pt_ext (scb ks) 64 32 .u8 (by omega)
      generalize hP0 : pt (scb ks) 0 32 = P0 at *
      replace hP0 := hide hP0
      generalize hP1 : pt (scb ks) 32 32 = P1 at *
      replace hP1 := hide hP1
      generalize hP2 : pt (scb ks) 64 32 = P2 at *
      replace hP2 := hide hP2
      generalize hR0 : scb ks = R at *
      replace hR0 := hide hR0
      clear hR hxl
      have ap0 := arr_k g 0 96
      have ap1 := arr_k g 32 64
      have ap2 := arr_k g 64 32
      have s0 := sl_0 g
      have s1 := sl_1 g
      have s2 := sl_2 g
      go_upto_region 8 with (fail)
      have hbd : Below w6.heap.size w6 w6.drew := below_drN (Below.refl _ _) 1
      replace rg := keep hbd rg
      replace Rr := keep hbd Rr
      replace hwr := Below.after hwr hbd
      clear hbd
      refine wp_region_noPanic ?_
      refine wp_region_held (S := fun W => W.heap[g]? = some (.cells (irow .u8 R) 5 (0, 0))) (by kernel_rfl) ?_
      change wpAnyH _ _ _ _ _ _ _ _ (World.drew _)
      generalize w6.drew = w7 at *
      refine wpAnyH_take (i := 0) (v := ?v1) rfl (by kernel_rfl) (by kernel_rfl) (by kernel_rfl) (fun _ _ _ h => h) (Or.inl ⟨by rfl, ?y1⟩) rg ?r1
      case y1 =>
        intro w_ hS_
        go_simp
        try with_reducible rfl
      simp only [Act.put, List.getElem_toArray, List.getElem_cons_zero, List.setIfInBounds_toArray, List.set_cons_succ, List.set_cons_zero]
      refine wpAnyH_take (i := 1) (v := .slice (some ⟨g, 0, none⟩) 32 96) rfl (by kernel_rfl) (by kernel_rfl) (by kernel_rfl) (fun _ _ _ h => h) (Or.inl ⟨by rfl, ?y2⟩) rg ?r2
      case y2 =>
        intro w_ hS_
        go_simp
        try with_reducible rfl
      simp only [Act.put, List.getElem_toArray, List.getElem_cons_succ, List.getElem_cons_zero, List.setIfInBounds_toArray, List.set_cons_succ, List.set_cons_zero]
      refine wpAnyH_take (i := 2) (v := .pointer (some ⟨g, 0, none⟩)) rfl (by kernel_rfl) (by kernel_rfl) (by kernel_rfl) (fun _ _ _ h => h) (Or.inl ⟨by rfl, ?y3⟩) rg ?r3
      case y3 =>
        intro w_ hS_
        go_simp
        try with_reducible rfl
      simp only [Act.put, List.getElem_toArray, List.getElem_cons_succ, List.getElem_cons_zero, List.setIfInBounds_toArray, List.set_cons_succ, List.set_cons_zero]
      refine wpAnyH_take (i := 3) (v := .agg (irow .u8 P0)) rfl (by kernel_rfl) (by kernel_rfl) (by kernel_rfl) (fun _ _ _ h => h) (Or.inl ⟨by rfl, ?y4⟩) rg ?r4
      case y4 =>
        intro w_ hS_
        simp only [List.getElem_toArray, List.getElem_cons_succ, List.getElem_cons_zero]
        exact run_load_part 23 _ (by rfl) (g) 0 (by rfl) 5 (irow .u8 R) (0, 0) (irow .u8 P0) _ (hS_) x0 Tryd.underlying23 rfl (infoKy _ l0)
      simp only [Act.put, List.getElem_toArray, List.getElem_cons_succ, List.getElem_cons_zero, List.setIfInBounds_toArray, List.set_cons_succ, List.set_cons_zero]
      refine wpAnyH_take (i := 4) (v := ?v5) rfl (by kernel_rfl) (by kernel_rfl) (by kernel_rfl) (fun _ _ _ h => h) (Or.inl ⟨by rfl, ?y5⟩) rg ?r5
      case y5 =>
        intro w_ hS_
        go_simp
        try with_reducible rfl
      simp only [Act.put, List.getElem_toArray, List.getElem_cons_succ, List.getElem_cons_zero, List.setIfInBounds_toArray, List.set_cons_succ, List.set_cons_zero]
      refine wpAnyH_take (i := 5) (v := .slice (some ⟨g, 32, none⟩) 32 64) rfl (by kernel_rfl) (by kernel_rfl) (by kernel_rfl) (fun _ _ _ h => h) (Or.inl ⟨by rfl, ?y6⟩) rg ?r6
      case y6 =>
        intro w_ hS_
        go_simp
        try with_reducible rfl
      simp only [Act.put, List.getElem_toArray, List.getElem_cons_succ, List.getElem_cons_zero, List.setIfInBounds_toArray, List.set_cons_succ, List.set_cons_zero]
      refine wpAnyH_take (i := 6) (v := .pointer (some ⟨g, 32, none⟩)) rfl (by kernel_rfl) (by kernel_rfl) (by kernel_rfl) (fun _ _ _ h => h) (Or.inl ⟨by rfl, ?y7⟩) rg ?r7
      case y7 =>
        intro w_ hS_
        go_simp
        try with_reducible rfl
      simp only [Act.put, List.getElem_toArray, List.getElem_cons_succ, List.getElem_cons_zero, List.setIfInBounds_toArray, List.set_cons_succ, List.set_cons_zero]
      refine wpAnyH_take (i := 7) (v := .agg (irow .u8 P1)) rfl (by kernel_rfl) (by kernel_rfl) (by kernel_rfl) (fun _ _ _ h => h) (Or.inl ⟨by rfl, ?y8⟩) rg ?r8
      case y8 =>
        intro w_ hS_
        simp only [List.getElem_toArray, List.getElem_cons_succ, List.getElem_cons_zero]
        exact run_load_part 23 _ (by rfl) (g) 32 (by rfl) 5 (irow .u8 R) (0, 0) (irow .u8 P1) _ (hS_) x32 Tryd.underlying23 rfl (infoKy _ l32)
      simp only [Act.put, List.getElem_toArray, List.getElem_cons_succ, List.getElem_cons_zero, List.setIfInBounds_toArray, List.set_cons_succ, List.set_cons_zero]
      refine wpAnyH_take (i := 8) (v := ?v9) rfl (by kernel_rfl) (by kernel_rfl) (by kernel_rfl) (fun _ _ _ h => h) (Or.inl ⟨by rfl, ?y9⟩) rg ?r9
      case y9 =>
        intro w_ hS_
        go_simp
        try with_reducible rfl
      simp only [Act.put, List.getElem_toArray, List.getElem_cons_succ, List.getElem_cons_zero, List.setIfInBounds_toArray, List.set_cons_succ, List.set_cons_zero]
      refine wpAnyH_take (i := 9) (v := .slice (some ⟨g, 64, none⟩) 32 32) rfl (by kernel_rfl) (by kernel_rfl) (by kernel_rfl) (fun _ _ _ h => h) (Or.inl ⟨by rfl, ?y10⟩) rg ?r10
      case y10 =>
        intro w_ hS_
        go_simp
        try with_reducible rfl
      simp only [Act.put, List.getElem_toArray, List.getElem_cons_succ, List.getElem_cons_zero, List.setIfInBounds_toArray, List.set_cons_succ, List.set_cons_zero]
      refine wpAnyH_take (i := 10) (v := .pointer (some ⟨g, 64, none⟩)) rfl (by kernel_rfl) (by kernel_rfl) (by kernel_rfl) (fun _ _ _ h => h) (Or.inl ⟨by rfl, ?y11⟩) rg ?r11
      case y11 =>
        intro w_ hS_
        go_simp
        try with_reducible rfl
      simp only [Act.put, List.getElem_toArray, List.getElem_cons_succ, List.getElem_cons_zero, List.setIfInBounds_toArray, List.set_cons_succ, List.set_cons_zero]
      refine wpAnyH_take (i := 11) (v := .agg (irow .u8 P2)) rfl (by kernel_rfl) (by kernel_rfl) (by kernel_rfl) (fun _ _ _ h => h) (Or.inl ⟨by rfl, ?y12⟩) rg ?r12
      case y12 =>
        intro w_ hS_
        simp only [List.getElem_toArray, List.getElem_cons_succ, List.getElem_cons_zero]
        exact run_load_part 23 _ (by rfl) (g) 64 (by rfl) 5 (irow .u8 R) (0, 0) (irow .u8 P2) _ (hS_) x64 Tryd.underlying23 rfl (infoKy _ l64)
      simp only [Act.put, List.getElem_toArray, List.getElem_cons_succ, List.getElem_cons_zero, List.setIfInBounds_toArray, List.set_cons_succ, List.set_cons_zero]
      refine wpAnyH_take (i := 12) (v := .agg (scr P0 P1 P2 (.slice none 0 0))) rfl (by kernel_rfl) (by kernel_rfl) (by kernel_rfl) (fun _ _ _ h => h) (Or.inl ⟨by rfl, ?y13⟩) rg ?r13
      case y13 =>
        intro w_ hS_
        simp only [List.getElem_toArray, List.getElem_cons_succ, List.getElem_cons_zero]
        exact run_build_op 30 _ (by rfl) [(0, .agg (irow .u8 P0)), (1, .agg (irow .u8 P1)), (2, .agg (irow .u8 P2))] (by rfl) _ (built_sc P0 P1 P2 l0 l32 l64)
      simp only [Act.put, List.getElem_toArray, List.getElem_cons_succ, List.getElem_cons_zero, List.setIfInBounds_toArray, List.set_cons_succ, List.set_cons_zero]
      refine wpAnyH_one (k := 13) (fuel := 0) (by kernel_rfl) rfl (by kernel_rfl) (fun K_ hK => ?_)
      refine wp_store_row 30 _ _ rfl w.heap.size (scr P0 P1 P2 (.slice none 0 0)) rfl rfl 30 _ Rr (info_scr _ _ _ _ l0 l32 l64) (fit_scr _ _ _ _ (zr_len 32) (zr_len 32) (zr_len 32) _ _ _ _ l0 l32 l64) (scr_one _ _ _ _ rfl) ?_
      have ng : w.heap.size ≠ g := by omega
      refine hK _ _ ((setRow_other w7 w.heap.size g _ (by omega)).trans rg) ?_
      simp only [Act.put]
      clear hK
      refine wpAnyH_done (by kernel_rfl) ?_ _
      refine NoPanic.normal ?_
      have R9 := setRow_heap w7 w.heap.size _ (scr P0 P1 P2 (.slice none 0 0)) _ _ Rr
      have hw9 := below_setRow hwr (Nat.le_refl _) (scr P0 P1 P2 (.slice none 0 0))
      go_wp2_with (fail)
      exact bodyPost_ret (results_cell_row Tryd.results17 _ _ w.heap.size _ _ _ _ rfl R9 Tryd.underlying30 rfl (info_scr _ _ _ _ l0 l32 l64)) rfl ⟨by rw [hR0.out, hP0.out, hP1.out, hP2.out], hw9⟩

end Go.Proofs.YtkpjpdlamojejaaDoor

namespace Go.Proofs.YtkpjpdlamojejaaDoor
set_option maxRecDepth 100000
open Go Go.RowKit Go.Sort
attribute [local go_sem] setCell_drewN alloc_drewN

set_option maxRecDepth 100000 in
set_option maxHeartbeats 4000000 in
theorem a_grow (n : Nat) (h0 : 0 < n) (hn : n ≤ 140737488351232) (w : World) : Calls Tryd.prog 29 #[.slice none 0 0, .int .i64 (n : Int)] w fun e w' => ∃ v, e = .returned v ∧ OwnI w' w.heap.size v [] ∧ Below w.heap.size w w' := by
  obtain ⟨i0, hi, hz0, hz1, hz2⟩ := info8
  have hd1 : decide ((n : Int) < 0) = false := by simp
  have hd2 : decide ((0 : Int) < (n : Int)) = true := by simp; omega
  have hap := fun ty => Go.Lib.run_append_nil_zeros (P := Tryd.prog) w 28 3 ty 5 i0 (.int .u8 0) .i64 .i64 Tryd.underlying28 Tryd.underlying3 hi hz0 n h0 (by omega) (by omega) (by rw [hz2]; omega)
  have hge := grownCap_ge w n 0 5
  have hle := grownCap_le_maxLen w n 0 5 (by unfold maxLen; omega)
  have sl0 := slice_to (some ⟨w.heap.size, 0, none⟩) n (grownCap w n 0 5) 0 (by omega)
  have hcs : (Builtin.zeroCells #[Value.int .u8 0] n ++ Builtin.zeroCells #[Value.int .u8 0] (grownCap w n 0 5 - n)).size = grownCap w n 0 5 := by
    simp [Builtin.zeroCells]
    omega
  go_enter Tryd.func29, Tryd.ntmps29
  go_wp2_with (at_builtin; refine Go.Lib.wpList_append_run _ rfl _ _ _ _ rfl _ _ rfl rfl _ _ (hap _) ?_)
  clear hap
  generalize grownCap w n 0 5 = cap at *
  go_wp2
  generalize (Builtin.zeroCells #[Value.int .u8 0] n ++ Builtin.zeroCells #[Value.int .u8 0] (cap - n)) = Z at *
  go_ret
  refine ⟨_, rfl, ⟨rfl, .inr ⟨w.heap.size, cap, Z, rfl, Nat.le_refl _, ?_, Nat.zero_le _, hle, by omega, rfl⟩⟩, ?_⟩
  · exact hp1_0 w _
  · exact below_drN ((Below.refl _ _).alloc (Nat.le_refl _) _) 1
set_option maxRecDepth 100000 in
set_option maxHeartbeats 4000000 in
theorem a_concatK (a b : List Int) (ha : a.length = 32) (hb : b.length = 32) (w : World) (gp ga gb : Nat) (hP : w.heap[gp]? = some (.cells #[.slice (some ⟨ga, 0, none⟩) 32 32, .slice (some ⟨gb, 0, none⟩) 32 32] 28 (0, 0))) (hA : w.heap[ga]? = some (.cells (irow .u8 a) 23 (0, 0))) (hB : w.heap[gb]? = some (.cells (irow .u8 b) 23 (0, 0))) : Calls Tryd.prog 18 #[.slice (some ⟨gp, 0, none⟩) 2 2] w fun e w' => ∃ v, e = .returned v ∧ OwnI w' w.heap.size v (a ++ b) ∧ Below w.heap.size w w' := by
  have c0 : w.cell? ⟨gp, 0, none⟩ = some (.slice (some ⟨ga, 0, none⟩) 32 32) := cell_of hP rfl
  have c1 : w.cell? ⟨gp, 1, none⟩ = some (.slice (some ⟨gb, 0, none⟩) 32 32) := cell_of hP rfl
  have lgp := lt_of_row hP
  have lb0 := lt_of_row hB
  have cG := a_grow 64 (by omega) (by omega) w
  go_enter Tryd.func18, Tryd.ntmps18
  go_wp2
  refine wp_loop_rounds 3 ?_
  rw [rounds_succ]; go_wp2
  rw [rounds_succ]; go_wp2
  rw [rounds_succ]; go_wp2_with (fail)
  refine cG.mono ?_
  rintro e_ w1 ⟨v1, rfl, hO, hw⟩
  obtain ⟨ao1, ac1, rfl⟩ := slen_own hO
  clear cG
  replace hA := keep hw hA
  replace hB := keep hw hB
  replace c0 : w1.cell? ⟨gp, 0, none⟩ = some (.slice (some ⟨ga, 0, none⟩) 32 32) := (hw.cell (p := ⟨gp, 0, none⟩) lgp).trans c0
  have lga := lt_of_row hA
  have lgb := lt_of_row hB
  go_wp2_with (fail)
  refine wp_loop_rounds 3 ?_
  rw [rounds_succ]
  go_wp2_with (at_builtin; refine wpList_append_sec rfl (.tmp 31) (.tmp 32) rfl w.heap.size _ [] rfl (.inl hO) ⟨ga, 0, none⟩ a 32 (by rw [ha]; rfl) (row_news hA) (by omega) (by simp [ha]) hw.size ?_)
  intro v2 w2 hO2 hgr
  have hAB : w2.heap[gb]? = some (.cells (irow .u8 b) 23 (0, 0)) := (hgr.block gb lgb (fun e => by have h := hO.lt gb e.symm; omega)).trans hB
  replace hw := hw.grown hgr hw.size (fun k e => (hO.lt k e).1)
  obtain ⟨ao2, ac2, rfl⟩ := slen_own hO2
  clear hgr hO c0
  replace c1 : w2.cell? ⟨gp, 1, none⟩ = some (.slice (some ⟨gb, 0, none⟩) 32 32) := (hw.cell (p := ⟨gp, 1, none⟩) lgp).trans c1
  go_wp2_with (fail)
  rw [rounds_succ]
  go_wp2_with (at_builtin; refine wpList_append_sec rfl (.tmp 31) (.tmp 32) rfl w.heap.size _ a rfl (.inl hO2) ⟨gb, 0, none⟩ b 32 (by rw [hb]; rfl) (row_news hAB) (by omega) (by simp [ha, hb]) hw.size ?_)
  intro v3 w3 hO3 hgr
  replace hw := hw.grown hgr hw.size (fun k e => (hO2.lt k (by rw [← e]; cases ao2 <;> rfl)).1)
  obtain ⟨ao3, ac3, rfl⟩ := slen_own hO3
  clear hgr hO2 c1
  go_wp2_with (fail)
  rw [rounds_succ]; go_wp2_with (fail)
  go_ret
  exact ⟨_, rfl, hO3, hw⟩

end Go.Proofs.YtkpjpdlamojejaaDoor
