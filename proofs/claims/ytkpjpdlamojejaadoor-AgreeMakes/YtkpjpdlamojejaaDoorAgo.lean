import Derived.Test.YtkpjpdlamojejaaDoorProg
import Derived.WalkKit
import Derived.WalkSpells
import Derived.WalkLawsBesides
import Derived.Lib.QuietBelow
import Derived.BigQuiet
import Derived.OrdersHeld
import Derived.Deep.RegionHeld3
import Derived.OwnWalk
import Derived.Deep.Cut
import Derived.Test.YtkpjpdlamojejaaDoorKa
import Derived.Test.YtkpjpdlamojejaaDoorAa4
import Derived.Test.YtkpjpdlamojejaaDoorNo
namespace Go.Proofs.YtkpjpdlamojejaaDoor
set_option maxRecDepth 100000
open Go Go.RowKit Go.Sort
attribute [local go_sem] setCell_drewN alloc_drewN

def shH (m : List Int) : List Int := shL (m.take 32) (m.drop 32)
def erH (m : List Int) : Int := wkE (m.take 32) (m.drop 32)
theorem ext_sub {cur : Array Value} {m : List Int} {a n o j : Nat} (h : cur.extract a (a + (irow .u8 m).size) = irow .u8 m) (hm : m.length = n) (ho : o + j ≤ n) : cur.extract (a + o) (a + o + (irow .u8 ((m.drop o).take j)).size) = irow .u8 ((m.drop o).take j) := by
  have hj : ((m.drop o).take j).length = j := by simp; omega
  rw [irow_size, hj]
  rw [irow_size, hm] at h
  have e := congrArg (fun c : Array Value => c.extract o (o + j)) h
  simp only [Array.extract_extract] at e
  have q : min (a + (o + j)) (a + n) = a + o + j := by omega
  rw [q] at e
  rw [e]
  apply Array.ext'
  simp [irow, List.map_take, List.map_drop, List.extract_eq_take_drop]
theorem wpList_bs1 {ops : Array Oper} {rest : List Oper} {o : Oper} {a : Act} {w : World} {Q : Exit → Act → World → Prop} (hgd : o.guard = none) (ho : o.op = .buildSlice 28 1 #[(0, .const (.int .u8 255))])
    (h : wpList Tryd.prog ops Q rest (a.put o.dst (.slice (some ⟨w.heap.size, 0, none⟩) 1 1)) (w.alloc (.cells #[.int .u8 255] 5))) : wpList Tryd.prog ops Q (o :: rest) a w := by
  refine wpList_wop hgd _ _ ?_ h
  have hr := run_bs1 w
  unfold execOp
  simp only [ho, Sem.run_bind, Sem.run_pure, List.map_toArray, List.map_cons, List.map_nil, Act.eval, hr, Result.andThen_ok]
theorem row_news1 {W : World} {g : Nat} {t : TypeId} (rg : W.heap[g]? = some (.cells #[.int .u8 255] t (0, 0))) : ∀ j u, (([255] : List Int).map (Value.int .u8))[j]? = some u → W.cell? ((⟨g, 0, none⟩ : Addr).add j) = some u := by
  intro j u hj
  rw [addr_add, cell_of_row _ _ _ _ _ _ rg, Nat.zero_add]
  simpa using hj
theorem exR {f : FuncId} {args : Array Value} {w : World} {v : Value} {Bp : World → Prop} (h : Calls Tryd.prog f args w fun e w' => e = .returned v ∧ Bp w') : Calls Tryd.prog f args w fun e w' => ∃ v', e = .returned v' ∧ v' = v ∧ Bp w' := h.mono fun _ _ ⟨a, b⟩ => ⟨v, a, rfl, b⟩
def fl (P : List Int) (k : Nat) : List Int := P.take k ++ zr (32 - k)
theorem fl_0 (P : List Int) : fl P 0 = zr 32 := by simp [fl]
theorem fl_len (P : List Int) (k : Nat) (hP : P.length = 32) (hk : k ≤ 32) : (fl P k).length = 32 := by simp [fl, zr_len, hP]; omega
theorem fl_32 (P : List Int) (hP : P.length = 32) : fl P 32 = P := by
  rw [fl, List.take_of_length_le (by omega)]
  simp [zr]
theorem fl_set (P : List Int) (k : Nat) (hP : P.length = 32) (hk : k < 32) : (fl P k).set k (P.getD k 0) = fl P (k + 1) := by
  apply List.ext_getElem
  · rw [List.length_set, fl_len P k hP (by omega), fl_len P (k + 1) hP (by omega)]
  · intro i h1 h2
    rw [fl_len P (k + 1) hP (by omega)] at h2
    rw [List.getElem_set]
    simp only [fl, List.getElem_append, List.length_take, hP, zr, List.getElem_replicate, List.getElem_take]
    by_cases e : k = i
    · subst e
      rw [if_pos rfl, dif_pos (by omega), List.getD_eq_getElem?_getD, List.getElem?_eq_getElem (by omega)]
      rfl
    · rw [if_neg e]
      by_cases q : i < k
      · rw [dif_pos (by omega), dif_pos (by omega)]
      · rw [dif_neg (by omega), dif_neg (by omega)]
theorem k8_set (a : List Int) (k : Nat) (x : Int) : (k8 a).set k (.int .u8 x) = k8 (a.set k x) := by simp [k8, List.map_set]
theorem sc_set_a (a b c : List Int) (v : Value) (k : Nat) (x : Int) (ha : a.length = 32) (hk : k < 32) : (scr a b c v).setIfInBounds k (.int .u8 x) = scr (a.set k x) b c v := by
  rw [scr, List.setIfInBounds_toArray, List.set_append_left _ _ (by rw [k8_len]; omega), k8_set]
  rfl
theorem sc_set_b (a b c : List Int) (v : Value) (k : Nat) (x : Int) (ha : a.length = 32) (hb : b.length = 32) (hk : k < 32) : (scr a b c v).setIfInBounds (32 + k) (.int .u8 x) = scr a (b.set k x) c v := by
  rw [scr, List.setIfInBounds_toArray, List.set_append_right _ _ (by rw [k8_len]; omega), k8_len, ha, Nat.add_sub_cancel_left, List.set_append_left _ _ (by rw [k8_len]; omega), k8_set]
  rfl
theorem sc_set_c (a b c : List Int) (v : Value) (k : Nat) (x : Int) (ha : a.length = 32) (hb : b.length = 32) (hc : c.length = 32) (hk : k < 32) : (scr a b c v).setIfInBounds (64 + k) (.int .u8 x) = scr a b (c.set k x) v := by
  rw [scr, List.setIfInBounds_toArray, List.set_append_right _ _ (by rw [k8_len]; omega), k8_len, ha, List.set_append_right _ _ (by rw [k8_len]; omega), k8_len, hb, show 64 + k - 32 - 32 = k by omega, List.set_append_left _ _ (by rw [k8_len]; omega), k8_set]
  rfl
theorem wpList_store_cellR {P : Program} {ops : Array Oper} {rest : List Oper} {o : Oper} {a : Act} {w : World} {Q : Exit → Act → World → Prop} (hgd : o.guard = none) (ty : TypeId) (x y : Operand) (ho : o.op = .store ty x y)
    (g off : Nat) (v : Value) (hx : a.eval x = .pointer (some ⟨g, off, none⟩)) (hy : a.eval y = v) (t : TypeId) (old new : Array Value) (hg : w.heap[g]? = some (.cells old t (0, 0))) (hlt : off < old.size) (hnew : old.setIfInBounds off v = new)
    (hi : (P.info? ty).map (·.size) = some 1) (h1 : v.oneCell' = true)
    (h : wpList P ops Q rest (a.put o.dst undef) (w.setRow g new)) : wpList P ops Q (o :: rest) a w :=
  wpList_plain hgd fun _ hK => wp_store_cellR ty x y ho g off v hx hy t old new hg hlt hnew hi h1 (hK _ _ h)
theorem cellB {W W' : World} {b o : Nat} {v : Value} (h : W.cell? ⟨b, o, none⟩ = some v) (e : W'.heap[b]? = W.heap[b]?) : W'.cell? ⟨b, o, none⟩ = some v := by
  rw [← h]; simp only [World.cell?, e]
theorem bysM_own {W : World} {b : Nat} {v : Value} {l : List Int} (h : OwnI W b v l) (hl : l.length ≤ 1000000) (hz : ∀ z ∈ l, 0 ≤ z ∧ z < 256) : BysM W v l := by
  refine ⟨((Sec.bys (.inl h)) (by omega) hz).1, by omega, fun a n c e ha => ?_⟩
  obtain ⟨_, ⟨rfl, h0⟩ | ⟨g, cap, cur, rfl, _⟩⟩ := h
  · cases e; rfl
  · cases e; cases ha
theorem bysM_some {W : World} {g n c : Nat} {l : List Int} (h : Bys W (.slice (some ⟨g, 0, none⟩) n c) l) (hl : l.length ≤ 1000000) : BysM W (.slice (some ⟨g, 0, none⟩) n c) l := ⟨h, by omega, fun a n c e ha => by cases e; cases ha⟩
theorem own_mt {W : World} {g : Nat} (r : W.heap[g]? = some (.cells #[] 5 (0, 0))) : OwnI W g (.slice (some ⟨g, 0, none⟩) 0 0) [] := ⟨rfl, .inr ⟨g, 0, #[], rfl, Nat.le_refl _, r, Nat.le_refl _, by decide, rfl, rfl⟩⟩
end Go.Proofs.YtkpjpdlamojejaaDoor
