import Derived.OwnWalk
import Derived.OrdersHeld
import Derived.Deep.RegionHeld3
import Derived.Deep.AppendLies
import Derived.Test.YtlbcdjflcghkeaaDoorTua
import Derived.Test.YtlbcdjflcghkeaaDoorDwk
import Derived.Test.YtlbcdjflcghkeaaDoorAa1
import Derived.Test.YtlbcdjflcghkeaaDoorProg
import Derived.WalkKit
import Derived.WalkSpells
import Derived.WalkLawsBesides
import Derived.Lib.QuietBelow
import Derived.BigQuiet
import Derived.Deep.Cut
import Derived.Deep.CutRange
namespace Go.Proofs.YtlbcdjflcghkeaaDoor
set_option maxRecDepth 100000
open Go Go.RowKit Go.Sort
attribute [local go_sem] setCell_drewN alloc_drewN
/-! Rows of contacts, events and books. -/
def ctl (c : Ct) : List Value := [Value.string c.n] ++ (k8 c.k ++ (k8 c.x ++ ([Value.int .i64 c.s] ++ [])))
def ctr (c : Ct) : Array Value := (ctl c).toArray
theorem ctl_len (c : Ct)  (h0 : (c.k).length = 32) (h1 : (c.x).length = 32) : (ctl c).length = 66 := by simp [ctl, k8_len, h0, h1]
theorem ctr_size (c : Ct)  (h0 : (c.k).length = 32) (h1 : (c.x).length = 32) : (ctr c).size = 66 := by rw [ctr, List.size_toArray, ctl_len c h0 h1]
theorem ctl_one (c : Ct)  : ∀ u ∈ ctl c, u.oneCell' = true := by
  intro u hu
  simp only [ctl, List.mem_append, List.mem_cons, List.not_mem_nil, or_false] at hu
  rcases hu with rfl | hu | hu | rfl
  · rfl
  · exact k8_one _ _ hu
  · exact k8_one _ _ hu
  · rfl
theorem ctr_one (c : Ct)  : (ctr c).all (·.oneCell') = true := by
  rw [ctr, List.all_toArray, List.all_eq_true]
  exact ctl_one c 
theorem ct_n (c : Ct)   : (ctr c)[0]? = some (Value.string c.n) := by
  have e : [Value.string c.n] ++ (k8 c.k ++ (k8 c.x ++ ([Value.int .i64 c.s] ++ []))) = ([]) ++ ([Value.string c.n] ++ (k8 c.k ++ (k8 c.x ++ ([Value.int .i64 c.s] ++ [])))) := by simp
  rw [ctr, ctl, e]
  exact getx _ _ _ 0 0 rfl (by simp)
theorem ct_k (c : Ct)  (h0 : (c.k).length = 32) : (ctr c).extract 1 (1 + (irow .u8 c.k).size) = irow .u8 c.k := by
  have e : [Value.string c.n] ++ (k8 c.k ++ (k8 c.x ++ ([Value.int .i64 c.s] ++ []))) = ([Value.string c.n] ++ []) ++ (k8 c.k ++ (k8 c.x ++ ([Value.int .i64 c.s] ++ []))) := by simp
  rw [ctr, ctl, e, irow_size, h0]
  exact extr _ _ _ 1 32 (by simp) (by simp [k8_len, h0])
theorem ct_x (c : Ct)  (h0 : (c.k).length = 32) (h1 : (c.x).length = 32) : (ctr c).extract 33 (33 + (irow .u8 c.x).size) = irow .u8 c.x := by
  have e : [Value.string c.n] ++ (k8 c.k ++ (k8 c.x ++ ([Value.int .i64 c.s] ++ []))) = ([Value.string c.n] ++ (k8 c.k ++ [])) ++ (k8 c.x ++ ([Value.int .i64 c.s] ++ [])) := by simp
  rw [ctr, ctl, e, irow_size, h1]
  exact extr _ _ _ 33 32 (by simp [k8_len, h0]) (by simp [k8_len, h1])
theorem ct_s (c : Ct)  (h0 : (c.k).length = 32) (h1 : (c.x).length = 32) : (ctr c)[65]? = some (Value.int .i64 c.s) := by
  have e : [Value.string c.n] ++ (k8 c.k ++ (k8 c.x ++ ([Value.int .i64 c.s] ++ []))) = ([Value.string c.n] ++ (k8 c.k ++ (k8 c.x ++ []))) ++ ([Value.int .i64 c.s] ++ ([])) := by simp
  rw [ctr, ctl, e]
  exact getx _ _ _ 65 0 (by simp [k8_len, h0, h1]) (by simp)
theorem ct_info (c : Ct)  (h0 : (c.k).length = 32) (h1 : (c.x).length = 32) : (Tryd.prog.info? 45).map (·.size) = some (ctr c).size := by rw [ctr_size c h0 h1]; kernel_rfl
theorem ct_box (cs : Array Value) (W : World) : (Instr.box 45 (.agg cs)).run Tryd.prog W = .ok (.pointer (some ⟨W.heap.size, 0, none⟩)) (W.alloc (.cells cs 45)) := by kernel_rfl
def evl (e : Ev) : List Value := [Value.int .i64 e.d] ++ ([Value.string e.n] ++ (k8 e.k ++ []))
def evr (e : Ev) : Array Value := (evl e).toArray
theorem evl_len (e : Ev)  (h0 : (e.k).length = 32) : (evl e).length = 34 := by simp [evl, k8_len, h0]
theorem evr_size (e : Ev)  (h0 : (e.k).length = 32) : (evr e).size = 34 := by rw [evr, List.size_toArray, evl_len e h0]
theorem evl_one (e : Ev)  : ∀ u ∈ evl e, u.oneCell' = true := by
  intro u hu
  simp only [evl, List.mem_append, List.mem_cons, List.not_mem_nil, or_false] at hu
  rcases hu with rfl | rfl | hu
  · rfl
  · rfl
  · exact k8_one _ _ hu
theorem evr_one (e : Ev)  : (evr e).all (·.oneCell') = true := by
  rw [evr, List.all_toArray, List.all_eq_true]
  exact evl_one e 
theorem ev_d (e : Ev)   : (evr e)[0]? = some (Value.int .i64 e.d) := by
  have e_ : [Value.int .i64 e.d] ++ ([Value.string e.n] ++ (k8 e.k ++ [])) = ([]) ++ ([Value.int .i64 e.d] ++ ([Value.string e.n] ++ (k8 e.k ++ []))) := by simp
  rw [evr, evl, e_]
  exact getx _ _ _ 0 0 rfl (by simp)
theorem ev_n (e : Ev)   : (evr e)[1]? = some (Value.string e.n) := by
  have e_ : [Value.int .i64 e.d] ++ ([Value.string e.n] ++ (k8 e.k ++ [])) = ([Value.int .i64 e.d] ++ []) ++ ([Value.string e.n] ++ (k8 e.k ++ [])) := by simp
  rw [evr, evl, e_]
  exact getx _ _ _ 1 0 (by simp) (by simp)
theorem ev_k (e : Ev)  (h0 : (e.k).length = 32) : (evr e).extract 2 (2 + (irow .u8 e.k).size) = irow .u8 e.k := by
  have e_ : [Value.int .i64 e.d] ++ ([Value.string e.n] ++ (k8 e.k ++ [])) = ([Value.int .i64 e.d] ++ ([Value.string e.n] ++ [])) ++ (k8 e.k ++ ([])) := by simp
  rw [evr, evl, e_, irow_size, h0]
  exact extr _ _ _ 2 32 (by simp) (by simp [k8_len, h0])
theorem ev_info (e : Ev)  (h0 : (e.k).length = 32) : (Tryd.prog.info? 57).map (·.size) = some (evr e).size := by rw [evr_size e h0]; kernel_rfl
theorem ev_box (cs : Array Value) (W : World) : (Instr.box 57 (.agg cs)).run Tryd.prog W = .ok (.pointer (some ⟨W.heap.size, 0, none⟩)) (W.alloc (.cells cs 57)) := by kernel_rfl
def bkl (y : List Int) (ve vc : Value) : List Value := k8 y ++ ([ve] ++ ([vc] ++ []))
def bkr (y : List Int) (ve vc : Value) : Array Value := (bkl y ve vc).toArray
theorem bkl_len (y : List Int) (ve vc : Value)  (h0 : (y).length = 32) : (bkl y ve vc).length = 34 := by simp [bkl, k8_len, h0]
theorem bkr_size (y : List Int) (ve vc : Value)  (h0 : (y).length = 32) : (bkr y ve vc).size = 34 := by rw [bkr, List.size_toArray, bkl_len y ve vc h0]
theorem bkl_one (y : List Int) (ve vc : Value) (o0 : (ve).oneCell' = true) (o1 : (vc).oneCell' = true) : ∀ u ∈ bkl y ve vc, u.oneCell' = true := by
  intro u hu
  simp only [bkl, List.mem_append, List.mem_cons, List.not_mem_nil, or_false] at hu
  rcases hu with hu | rfl | rfl
  · exact k8_one _ _ hu
  · exact o0
  · exact o1
theorem bkr_one (y : List Int) (ve vc : Value) (o0 : (ve).oneCell' = true) (o1 : (vc).oneCell' = true) : (bkr y ve vc).all (·.oneCell') = true := by
  rw [bkr, List.all_toArray, List.all_eq_true]
  exact bkl_one y ve vc o0 o1
theorem bk_k (y : List Int) (ve vc : Value)  (h0 : (y).length = 32) : (bkr y ve vc).extract 0 (0 + (irow .u8 y).size) = irow .u8 y := by
  have e : k8 y ++ ([ve] ++ ([vc] ++ [])) = ([]) ++ (k8 y ++ ([ve] ++ ([vc] ++ []))) := by simp
  rw [bkr, bkl, e, irow_size, h0]
  exact extr _ _ _ 0 32 rfl (by simp [k8_len, h0])
theorem bk_e (y : List Int) (ve vc : Value)  (h0 : (y).length = 32) : (bkr y ve vc)[32]? = some (ve) := by
  have e : k8 y ++ ([ve] ++ ([vc] ++ [])) = (k8 y ++ []) ++ ([ve] ++ ([vc] ++ [])) := by simp
  rw [bkr, bkl, e]
  exact getx _ _ _ 32 0 (by simp [k8_len, h0]) (by simp)
theorem bk_c (y : List Int) (ve vc : Value)  (h0 : (y).length = 32) : (bkr y ve vc)[33]? = some (vc) := by
  have e : k8 y ++ ([ve] ++ ([vc] ++ [])) = (k8 y ++ ([ve] ++ [])) ++ ([vc] ++ ([])) := by simp
  rw [bkr, bkl, e]
  exact getx _ _ _ 33 0 (by simp [k8_len, h0]) (by simp)
theorem bk_info (y : List Int) (ve vc : Value)  (h0 : (y).length = 32) : (Tryd.prog.info? 51).map (·.size) = some (bkr y ve vc).size := by rw [bkr_size y ve vc h0]; kernel_rfl
theorem bk_box (cs : Array Value) (W : World) : (Instr.box 51 (.agg cs)).run Tryd.prog W = .ok (.pointer (some ⟨W.heap.size, 0, none⟩)) (W.alloc (.cells cs 51)) := by kernel_rfl
theorem zCt (W : World) : (Instr.alloc 45 true (.tuple #[])).run Tryd.prog W = .ok (.pointer (some ⟨W.heap.size, 0, none⟩)) (W.alloc (.cells (ctr zct) 45)) := by kernel_rfl
theorem bt_z : Tryd.prog.built 45 [] = some (ctr zct) := by kernel_rfl
theorem bt_3 (n : ByteArray) (k : List Int) (s : Int) (hk : k.length = 32) : Tryd.prog.built 45 [(0, .string n), (1, .agg (irow .u8 k)), (3, .int .i64 s)] = some (ctr ⟨n, k, zr 32, s⟩) := by
  obtain ⟨x0, x1, x2, x3, x4, x5, x6, x7, x8, x9, x10, x11, x12, x13, x14, x15, x16, x17, x18, x19, x20, x21, x22, x23, x24, x25, x26, x27, x28, x29, x30, x31, rfl⟩ := len32 k hk
  kernel_rfl
theorem bt_4 (n : ByteArray) (k x : List Int) (s : Int) (hk : k.length = 32) (hx : x.length = 32) : Tryd.prog.built 45 [(0, .string n), (1, .agg (irow .u8 k)), (2, .agg (irow .u8 x)), (3, .int .i64 s)] = some (ctr ⟨n, k, x, s⟩) := by
  obtain ⟨x0, x1, x2, x3, x4, x5, x6, x7, x8, x9, x10, x11, x12, x13, x14, x15, x16, x17, x18, x19, x20, x21, x22, x23, x24, x25, x26, x27, x28, x29, x30, x31, rfl⟩ := len32 k hk
  obtain ⟨y0, y1, y2, y3, y4, y5, y6, y7, y8, y9, y10, y11, y12, y13, y14, y15, y16, y17, y18, y19, y20, y21, y22, y23, y24, y25, y26, y27, y28, y29, y30, y31, rfl⟩ := len32 x hx
  kernel_rfl
theorem bt_e (d : Int) (n : ByteArray) (k : List Int) (hk : k.length = 32) : Tryd.prog.built 57 [(0, .int .i64 d), (1, .string n), (2, .agg (irow .u8 k))] = some (evr ⟨d, n, k⟩) := by
  obtain ⟨x0, x1, x2, x3, x4, x5, x6, x7, x8, x9, x10, x11, x12, x13, x14, x15, x16, x17, x18, x19, x20, x21, x22, x23, x24, x25, x26, x27, x28, x29, x30, x31, rfl⟩ := len32 k hk
  kernel_rfl
theorem bt_b (k : List Int) (hk : k.length = 32) : Tryd.prog.built 51 [(0, .agg (irow .u8 k))] = some (bkr k (.slice none 0 0) (.slice none 0 0)) := by
  obtain ⟨x0, x1, x2, x3, x4, x5, x6, x7, x8, x9, x10, x11, x12, x13, x14, x15, x16, x17, x18, x19, x20, x21, x22, x23, x24, x25, x26, x27, x28, x29, x30, x31, rfl⟩ := len32 k hk
  kernel_rfl
theorem strCt : Tryd.prog.underlying 45 = some (.struct (Tryd.prog.fieldsOf 45)) := by kernel_rfl
theorem infoCtz : ∃ i, Tryd.prog.info? 45 = some i ∧ i.zero = some (.agg (ctr zct)) ∧ i.size = 66 ∧ i.bytes = 88 := ⟨_, rfl, rfl, rfl, rfl⟩
theorem infoEvz : ∃ i, Tryd.prog.info? 57 = some i ∧ i.zero = some (.agg (evr ⟨0, ⟨#[]⟩, zr 32⟩)) ∧ i.size = 34 ∧ i.bytes = 56 := ⟨_, rfl, rfl, rfl, rfl⟩
/-! Lists of rows of one size. -/
theorem tflat_len {α : Type} {f : α → List Value} {n : Nat} : ∀ (l : List α), (∀ s ∈ l, (f s).length = n) → (l.flatMap f).length = l.length * n
  | [], _ => by simp
  | s :: r, h => by
    rw [List.flatMap_cons, List.length_append, tflat_len r (fun x hx => h x (by simp [hx])), h s (by simp), List.length_cons, Nat.add_mul]
    omega
theorem flat_at {α : Type} (z : α) {f : α → List Value} {n : Nat} : ∀ (l : List α), (∀ s ∈ l, (f s).length = n) → ∀ i j, i < l.length → j < n → (l.flatMap f)[i * n + j]? = (f (l.getD i z))[j]?
  | [], _, i, _, hi, _ => by simp at hi
  | s :: r, h, 0, j, _, hj => by
    rw [List.flatMap_cons, Nat.zero_mul, Nat.zero_add, List.getElem?_append_left (by rw [h s (by simp)]; exact hj)]
    rfl
  | s :: r, h, i + 1, j, hi, hj => by
    have e := h s (by simp)
    rw [List.flatMap_cons, List.getElem?_append_right (by rw [e, Nat.add_mul]; omega)]
    have : (i + 1) * n + j - (f s).length = i * n + j := by rw [e, Nat.add_mul]; omega
    rw [this, flat_at z r (fun x hx => h x (by simp [hx])) i j (by simpa using hi) hj]
    rfl
theorem mem_getD {α : Type} (z : α) {l : List α} {i : Nat} (h : i < l.length) : l.getD i z ∈ l := by
  rw [List.getD_eq_getElem?_getD, List.getElem?_eq_getElem h]
  exact List.getElem_mem h
theorem flat_mem {α : Type} (z : α) {f : α → List Value} {n : Nat} {l : List α} (h : ∀ s ∈ l, (f s).length = n) {i : Nat} (hi : i < l.length) : ∀ j x, (f (l.getD i z))[j]? = some x → (l.flatMap f)[i * n + j]? = some x := by
  intro j x hx
  have hj : j < n := by have := (List.getElem?_eq_some_iff.1 hx).1; rw [h _ (mem_getD z hi)] at this; exact this
  rw [flat_at z l h i j hi hj]
  exact hx
theorem range_own {W : World} {base g cap : Nat} {T : TypeId} {n k m : Nat} {xs ys : List Value} (h : W.ownsRow base T n (.slice (some ⟨g, 0, none⟩) m cap) m xs) (hk : ∀ j x, ys[j]? = some x → xs[k + j]? = some x) : W.rangeAt g k ys := by
  intro j x hx
  have := h.cells (g := g) rfl (k + j) x (hk j x hx)
  rw [addr_add, Nat.zero_add] at this
  exact this
theorem rangeAt_keep {W V : World} {b o : Nat} {cs : List Value} (h : W.rangeAt b o cs) (hb : V.heap[b]? = W.heap[b]?) : V.rangeAt b o cs := by
  intro j x hx
  have := h j x hx
  simp only [World.cell?] at this ⊢
  rw [hb]
  exact this
theorem own_move {W W' : World} {b : Nat} {T : TypeId} {z n : Nat} {v : Value} {xs : List Value} (h : W.ownsRow b T z v n xs) (hm : ∀ g, v.ownBlock = some g → W'.heap[g]? = W.heap[g]?) : W'.ownsRow b T z v n xs := by
  obtain ⟨h1, h2⟩ := h
  refine ⟨h1, ?_⟩
  rcases h2 with h2 | ⟨g, cap, cur, rfl, hb, hg, rest⟩
  · exact .inl h2
  · exact .inr ⟨g, cap, cur, rfl, hb, (hm g rfl).trans hg, rest⟩
theorem own_kp {W W' : World} {b : Nat} {T : TypeId} {z n : Nat} {v : Value} {xs : List Value} (h : W.ownsRow b T z v n xs) (hb : Below W.heap.size W W') : W'.ownsRow b T z v n xs := own_move h (fun g e => hb.block g (h.lt g e).2)
theorem own_dn {W : World} {b c : Nat} {T : TypeId} {z n : Nat} {v : Value} {xs : List Value} (h : W.ownsRow b T z v n xs) (hc : c ≤ b) : W.ownsRow c T z v n xs := by
  obtain ⟨h1, h2⟩ := h
  refine ⟨h1, ?_⟩
  rcases h2 with h2 | ⟨g, cap, cur, rfl, hb, rest⟩
  · exact .inl h2
  · exact .inr ⟨g, cap, cur, rfl, by omega, rest⟩
theorem own_sl {W : World} {b : Nat} {T : TypeId} {sz : Nat} {v : Value} {n : Nat} {xs : List Value} (h : W.ownsRow b T sz v n xs) : ∃ ao cap, v = .slice ao n cap ∧ n ≤ cap ∧ cap ≤ maxLen ∧ (ao = none → cap = 0) ∧ ∀ ad, ao = some ad → ∃ g, ad = ⟨g, 0, none⟩ := by
  obtain ⟨_, ⟨rfl, rfl⟩ | ⟨g, cap, cur, rfl, _, _, h1, h2, _⟩⟩ := h
  · exact ⟨_, _, rfl, Nat.le_refl _, (by decide), (fun _ => rfl), fun _ h => by cases h⟩
  · exact ⟨_, _, rfl, h1, h2, (fun h => by cases h), fun ad h => ⟨g, by cases h; rfl⟩⟩
theorem own_type {W : World} {b : Nat} {T T2 : TypeId} {sz : Nat} {v : Value} {n : Nat} {xs : List Value} (h : W.ownsRow b T sz v n xs) {g : Nat} {cs : Array Value} {fr : Nat × Nat} (hg : W.heap[g]? = some (.cells cs T2 fr)) (hT : T ≠ T2) : v.ownBlock ≠ some g := by
  obtain ⟨_, ⟨rfl, _⟩ | ⟨g1, cap, cur, rfl, _, h1, _⟩⟩ := h
  · intro e; cases e
  · intro e
    cases e
    rw [h1] at hg
    cases hg
    exact hT rfl
theorem cell_at {W : World} {g : Nat} {cs : Array Value} {t : TypeId} {j : Nat} {v : Value} (h : W.heap[g]? = some (.cells cs t (0, 0))) (hj : cs[j]? = some v) : W.cell? ⟨g, j, none⟩ = some v := by
  rw [cell_of_row _ _ _ _ _ _ h]; exact hj
theorem run_load_range {P : Program} {o : Oper} {a : Act} {w : World} (ty : TypeId) (x : Operand) (ho : o.op = .load ty x) (g off : Nat) (hx : a.eval x = .pointer (some ⟨g, off, none⟩)) (cs : List Value) (d : TypeDesc) (hr : w.rangeAt g off cs)
    (hu : P.underlying ty = some d) (hd : d.isRow = true) (hi : (P.info? ty).map (·.size) = some cs.length) : (execOp a.eval o).run P w = .ok (.value (.agg cs.toArray)) w := by
  have hl := run_loadVar_mid (P := P) w g off ty cs d hr hu hd hi
  unfold execOp
  simp only [ho, hx, Instr.loadAt, Instr.sureAddr, Sem.run_bind, Sem.run_pure, Result.andThen_ok, hl]
theorem wpList_load_rng {P : Program} {ops : Array Oper} {rest : List Oper} {o : Oper} {a : Act} {w : World} {Q : Exit → Act → World → Prop} (hw : Region.wanted o (yielded ops a.tmps) = true) (ty : TypeId) (x : Operand) (ho : o.op = .load ty x) (g off : Nat) (hx : a.eval x = .pointer (some ⟨g, off, none⟩)) (cs : List Value) (d : TypeDesc) (hr : w.rangeAt g off cs)
    (hu : P.underlying ty = some d) (hd : d.isRow = true) (hi : (P.info? ty).map (·.size) = some cs.length) (h : wpList P ops Q rest (a.put o.dst (.agg cs.toArray)) w) : wpList P ops Q (o :: rest) a w :=
  BigFrame.wpList_want hw fun _ hK => wp_world_op _ _ (run_load_range ty x ho g off hx cs d hr hu hd hi) (hK _ _ h)
def AllC (l : List Ct) : Prop := ∀ s ∈ l, s.ok
theorem AllC.at {l : List Ct} (h : AllC l) {i : Nat} (hi : i < l.length) : (l.getD i zct).ok := h _ (mem_getD zct hi)
theorem AllC.take {l : List Ct} (h : AllC l) (k : Nat) : AllC (l.take k) := fun s hs => h s (List.mem_of_mem_take hs)
theorem AllC.drop {l : List Ct} (h : AllC l) (k : Nat) : AllC (l.drop k) := fun s hs => h s (List.mem_of_mem_drop hs)
theorem AllC.app {l r : List Ct} (h : AllC l) (k : AllC r) : AllC (l ++ r) := fun s hs => (List.mem_append.1 hs).elim (h s) (k s)
theorem AllC.one {s : Ct} (h : s.ok) : AllC [s] := fun x hx => by rw [List.mem_singleton.1 hx]; exact h
theorem AllC.nil : AllC [] := fun s hs => by cases hs
def cts (l : List Ct) : List Value := l.flatMap ctl
theorem cts_ok {l : List Ct} (h : AllC l) : ∀ s ∈ l, (ctl s).length = 66 := fun s hs => ctl_len s (h s hs).1.1 (h s hs).2.1
theorem cts_len {l : List Ct} (h : AllC l) : (cts l).length = l.length * 66 := tflat_len l (cts_ok h)
theorem cts_app (a b : List Ct) : cts (a ++ b) = cts a ++ cts b := by simp [cts]
theorem cts_one (s : Ct) : cts [s] = ctl s := by simp [cts]
theorem cts_ones (l : List Ct) : ∀ u ∈ cts l, u.oneCell' = true := by
  intro u hu
  obtain ⟨s, _, h⟩ := List.mem_flatMap.1 hu
  exact ctl_one s u h
/-- A list of one's own. -/
def OwnC (W : World) (b : Nat) (v : Value) (l : List Ct) : Prop := W.ownsRow b 45 66 v l.length (cts l) ∧ AllC l
theorem OwnC.keep {W V : World} {b : Nat} {v : Value} {l : List Ct} (h : OwnC W b v l) (hb : Below W.heap.size W V) : OwnC V b v l := ⟨own_kp h.1 hb, h.2⟩
theorem OwnC.move {W V : World} {b : Nat} {v : Value} {l : List Ct} (h : OwnC W b v l) (hm : ∀ g, v.ownBlock = some g → V.heap[g]? = W.heap[g]?) : OwnC V b v l := ⟨own_move h.1 hm, h.2⟩
theorem OwnC.down {W : World} {b c : Nat} {v : Value} {l : List Ct} (h : OwnC W b v l) (hc : c ≤ b) : OwnC W c v l := ⟨own_dn h.1 hc, h.2⟩
theorem OwnC.nil (W : World) (b : Nat) : OwnC W b (.slice none 0 0) [] := ⟨⟨rfl, .inl ⟨rfl, rfl⟩⟩, AllC.nil⟩
theorem OwnC.lt {W : World} {b : Nat} {v : Value} {l : List Ct} (h : OwnC W b v l) : ∀ k, v.ownBlock = some k → b ≤ k ∧ k < W.heap.size := World.ownsRow.lt h.1
theorem OwnC.sl {W : World} {b : Nat} {v : Value} {l : List Ct} (h : OwnC W b v l) : ∃ ao cap, v = .slice ao l.length cap ∧ l.length ≤ cap ∧ cap ≤ maxLen ∧ (ao = none → cap = 0) ∧ ∀ ad, ao = some ad → ∃ g, ad = ⟨g, 0, none⟩ := own_sl h.1
theorem OwnC.at {W : World} {b : Nat} {ao : Option Addr} {m cap : Nat} {l : List Ct} (h : OwnC W b (.slice ao m cap) l) {i : Nat} (hi : i < l.length) : ∃ g, ao = some ⟨g, 0, none⟩ ∧ g < W.heap.size ∧ W.rangeAt g (i * 66) (ctl (l.getD i zct)) := by
  have h0 := h.1
  obtain ⟨_, ⟨e, h3⟩ | ⟨gl, cap2, cur, e, hb, hg, _⟩⟩ := h0
  · omega
  · cases e
    exact ⟨gl, rfl, lt_of_row hg, range_own h.1 (flat_mem zct (cts_ok h.2) hi)⟩
def zev : Ev := ⟨0, ⟨#[]⟩, zr 32⟩
def AllE (l : List Ev) : Prop := ∀ s ∈ l, s.ok
theorem AllE.at {l : List Ev} (h : AllE l) {i : Nat} (hi : i < l.length) : (l.getD i zev).ok := h _ (mem_getD zev hi)
theorem AllE.take {l : List Ev} (h : AllE l) (k : Nat) : AllE (l.take k) := fun s hs => h s (List.mem_of_mem_take hs)
theorem AllE.drop {l : List Ev} (h : AllE l) (k : Nat) : AllE (l.drop k) := fun s hs => h s (List.mem_of_mem_drop hs)
theorem AllE.app {l r : List Ev} (h : AllE l) (k : AllE r) : AllE (l ++ r) := fun s hs => (List.mem_append.1 hs).elim (h s) (k s)
theorem AllE.one {s : Ev} (h : s.ok) : AllE [s] := fun x hx => by rw [List.mem_singleton.1 hx]; exact h
theorem AllE.nil : AllE [] := fun s hs => by cases hs
def evs (l : List Ev) : List Value := l.flatMap evl
theorem evs_ok {l : List Ev} (h : AllE l) : ∀ s ∈ l, (evl s).length = 34 := fun s hs => evl_len s (h s hs).1
theorem evs_len {l : List Ev} (h : AllE l) : (evs l).length = l.length * 34 := tflat_len l (evs_ok h)
theorem evs_app (a b : List Ev) : evs (a ++ b) = evs a ++ evs b := by simp [evs]
theorem evs_one (s : Ev) : evs [s] = evl s := by simp [evs]
theorem evs_ones (l : List Ev) : ∀ u ∈ evs l, u.oneCell' = true := by
  intro u hu
  obtain ⟨s, _, h⟩ := List.mem_flatMap.1 hu
  exact evl_one s u h
/-- A list of one's own. -/
def OwnE (W : World) (b : Nat) (v : Value) (l : List Ev) : Prop := W.ownsRow b 57 34 v l.length (evs l) ∧ AllE l
theorem OwnE.keep {W V : World} {b : Nat} {v : Value} {l : List Ev} (h : OwnE W b v l) (hb : Below W.heap.size W V) : OwnE V b v l := ⟨own_kp h.1 hb, h.2⟩
theorem OwnE.move {W V : World} {b : Nat} {v : Value} {l : List Ev} (h : OwnE W b v l) (hm : ∀ g, v.ownBlock = some g → V.heap[g]? = W.heap[g]?) : OwnE V b v l := ⟨own_move h.1 hm, h.2⟩
theorem OwnE.down {W : World} {b c : Nat} {v : Value} {l : List Ev} (h : OwnE W b v l) (hc : c ≤ b) : OwnE W c v l := ⟨own_dn h.1 hc, h.2⟩
theorem OwnE.nil (W : World) (b : Nat) : OwnE W b (.slice none 0 0) [] := ⟨⟨rfl, .inl ⟨rfl, rfl⟩⟩, AllE.nil⟩
theorem OwnE.lt {W : World} {b : Nat} {v : Value} {l : List Ev} (h : OwnE W b v l) : ∀ k, v.ownBlock = some k → b ≤ k ∧ k < W.heap.size := World.ownsRow.lt h.1
theorem OwnE.sl {W : World} {b : Nat} {v : Value} {l : List Ev} (h : OwnE W b v l) : ∃ ao cap, v = .slice ao l.length cap ∧ l.length ≤ cap ∧ cap ≤ maxLen ∧ (ao = none → cap = 0) ∧ ∀ ad, ao = some ad → ∃ g, ad = ⟨g, 0, none⟩ := own_sl h.1
theorem OwnE.at {W : World} {b : Nat} {ao : Option Addr} {m cap : Nat} {l : List Ev} (h : OwnE W b (.slice ao m cap) l) {i : Nat} (hi : i < l.length) : ∃ g, ao = some ⟨g, 0, none⟩ ∧ g < W.heap.size ∧ W.rangeAt g (i * 34) (evl (l.getD i zev)) := by
  have h0 := h.1
  obtain ⟨_, ⟨e, h3⟩ | ⟨gl, cap2, cur, e, hb, hg, _⟩⟩ := h0
  · omega
  · cases e
    exact ⟨gl, rfl, lt_of_row hg, range_own h.1 (flat_mem zev (evs_ok h.2) hi)⟩
/-! A book in memory. -/
structure Bk (W : World) (b g : Nat) (ve vc : Value) (y : List Int) (es : List Ev) (cs : List Ct) : Prop where
  row : W.heap[g]? = some (.cells (bkr y ve vc) 51 (0, 0))
  evs : OwnE W b ve es
  cts : OwnC W b vc cs
  key : K32 y
  bg : b ≤ g
  srt : Srt cs
  sta : ∀ c ∈ cs, 1 ≤ c.s ∧ c.s ≤ 4
  len : cs.length ≤ 64
  elen : es.length ≤ 1024
def ownB (g : Nat) (ve vc : Value) (k : Nat) : Prop := k = g ∨ ve.ownBlock = some k ∨ vc.ownBlock = some k
theorem Bk.low {W : World} {b g : Nat} {ve vc : Value} {y : List Int} {es : List Ev} {cs : List Ct} (h : Bk W b g ve vc y es cs) : ∀ k, ownB g ve vc k → b ≤ k ∧ k < W.heap.size := by
  rintro k (rfl | e | e)
  · exact ⟨h.bg, lt_of_row h.row⟩
  · exact h.evs.lt k e
  · exact h.cts.lt k e
theorem Bk.move {W V : World} {b g : Nat} {ve vc : Value} {y : List Int} {es : List Ev} {cs : List Ct} (h : Bk W b g ve vc y es cs) (hm : ∀ k, ownB g ve vc k → V.heap[k]? = W.heap[k]?) : Bk V b g ve vc y es cs :=
  ⟨(hm g (.inl rfl)).trans h.row, h.evs.move (fun k e => hm k (.inr (.inl e))), h.cts.move (fun k e => hm k (.inr (.inr e))), h.key, h.bg, h.srt, h.sta, h.len, h.elen⟩
theorem Bk.keep {W V : World} {b g : Nat} {ve vc : Value} {y : List Int} {es : List Ev} {cs : List Ct} (h : Bk W b g ve vc y es cs) (hb : Below W.heap.size W V) : Bk V b g ve vc y es cs := h.move (fun k e => hb.block k (h.low k e).2)
theorem Bk.ce {W : World} {b g : Nat} {ve vc : Value} {y : List Int} {es : List Ev} {cs : List Ct} (h : Bk W b g ve vc y es cs) : W.cell? ⟨g, 32, none⟩ = some ve := cell_at h.row (bk_e y ve vc h.key.1)
theorem Bk.cc {W : World} {b g : Nat} {ve vc : Value} {y : List Int} {es : List Ev} {cs : List Ct} (h : Bk W b g ve vc y es cs) : W.cell? ⟨g, 33, none⟩ = some vc := cell_at h.row (bk_c y ve vc h.key.1)
end Go.Proofs.YtlbcdjflcghkeaaDoor
