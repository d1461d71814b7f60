import Derived.Test.YtebgdenfaiinmaaSpb
import Derived.Deep.AppendLies
namespace Go.Proofs.Ytebgdenfaiinmaa
open Go Go.RowKit Go.Sort Go.ChangeMaps Go.MapKept

/-- v' lies where v lay, or in a new block. -/
def Nx (w : World) (v v' : Value) : Prop := v'.ownBlock = v.ownBlock ∨ ∃ k, v'.ownBlock = some k ∧ w.heap.size ≤ k
theorem Nx.refl (w : World) (v : Value) : Nx w v v := .inl rfl
theorem Nx.trans {w W : World} {v s s' : Value} (h : Nx w v s) (hs : w.heap.size ≤ W.heap.size) (h2 : Nx W s s') : Nx w v s' := by
  rcases h2 with e | ⟨k, e, hk⟩
  · rcases h with e2 | ⟨k, e2, hk⟩
    · exact .inl (e.trans e2)
    · exact .inr ⟨k, e.trans e2, hk⟩
  · exact .inr ⟨k, e, by omega⟩
theorem Nx.unalloc {W : World} {o : Obj} {s s' : Value} (h : Nx (W.alloc o) s s') : Nx W s s' := by
  rcases h with e | ⟨k, e, hk⟩
  · exact .inl e
  · exact .inr ⟨k, e, by rw [size_alloc1] at hk; omega⟩
theorem Nx.ne {w : World} {v s : Value} (h : Nx w v s) {k : Nat} (hk : k < w.heap.size) (hv : v.ownBlock ≠ some k) : s.ownBlock ≠ some k := by
  rcases h with e | ⟨k', e, hk'⟩
  · rw [e]; exact hv
  · rw [e]; intro e2; cases e2; omega
theorem wp_append_nx {P : Program} {w : World} {o : Oper} {a : Act} {K : Act → World → Prop} {Q : Exit → Act → World → Prop} (s x : Operand) (t : TypeId)
    (ho : o.op = .call { callee := .builtin .append, args := #[s, x], argTypes := #[t, t] })
    (base : Nat) (e : TypeId) (i : TypeInfo) (z : Value) (size bytes : Nat) (ht : P.underlying t = some (.slice e)) (hi : P.info? e = some i) (hz : i.zero = some z)
    (hsize : i.size = size) (hby : i.bytes = bytes) (hzs : z.cells.size = size) (hsz : 0 < size)
    (v : Value) (n : Nat) (xs : List Value) (hs : a.eval s = v) (hown : w.ownsRow base e size v n xs)
    (ad : Addr) (m c : Nat) (news : List Value) (hx : a.eval x = .slice (some ad) m c) (hl : news.length = m * size) (hnews : ∀ j u, news[j]? = some u → w.cell? (ad.add j) = some u) (h1 : ∀ u ∈ news, u.oneCell' = true)
    (h63 : n + m ≤ maxLen) (hbytes : (n + m) * bytes ≤ 140737488355328) (hbase : base ≤ w.heap.size)
    (h : ∀ v' w', w'.ownsRow base e size v' (n + m) (xs ++ news) → w.grownBy w' v.ownBlock → Nx w v v' → K (a.put o.dst v') w') : o.wp P a w K Q := by
  obtain ⟨v', w', hr, h2, h3, h4⟩ := run_append_own (P := P) w base t o.type e i z size bytes ht hi hz hsize hby hzs hsz _ n xs hown ad m c news hl hnews h1 h63 hbytes hbase
  have key : Nx w v v' := by
    rcases hown.2 with ⟨rfl, hn0⟩ | ⟨g1, cap1, cur, rfl, hbg, hg, hnc, hcm, hcs, htake⟩
    · have hown2 : w.ownsRow w.heap.size e size (.slice none 0 0) n xs := ⟨hown.1, .inl ⟨rfl, hn0⟩⟩
      obtain ⟨v2, w2, hr2, g2, _, g4⟩ := run_append_own (P := P) w w.heap.size t o.type e i z size bytes ht hi hz hsize hby hzs hsz _ n xs hown2 ad m c news hl hnews h1 h63 hbytes (Nat.le_refl _)
      have he := hr.symm.trans hr2
      injection he with e1 e2
      subst e1
      rcases g2.2 with ⟨hv, _⟩ | ⟨g, cap, _, hv, hbg, _⟩
      · exact .inl (by rw [hv])
      · exact .inr ⟨g, by rw [hv]; rfl, hbg⟩
    · by_cases hroom : n + m ≤ cap1
      · have hr2 := run_append_room (P := P) w t o.type e i ht hi g1 n cap1 cur hg ad m c news (by rw [hsize]; exact hl) hnews h1 hroom (by rw [hsize, hl, hcs, ← Nat.add_mul]; exact Nat.mul_le_mul_right _ hroom)
        have he := hr.symm.trans hr2
        injection he with e1 e2
        exact .inl (by rw [e1]; rfl)
      · have holds : ∀ j u, xs[j]? = some u → w.cell? ((⟨g1, 0, none⟩ : Addr).add j) = some u := hown.cells (g := g1) rfl
        have hr2 := run_append_grow (P := P) w t o.type e i z ht hi hz ⟨g1, 0, none⟩ n cap1 xs (by rw [hsize]; exact hown.1) holds ad m c news (by rw [hsize]; exact hl) hnews (by omega) (by simp only [maxLen] at h63; omega) (growslice_fits (by omega) (by rw [hby]; exact hbytes))
        have he := hr.symm.trans hr2
        injection he with e1 e2
        exact .inr ⟨w.heap.size, by rw [e1]; rfl, Nat.le_refl _⟩
  unfold Oper.wp execOp
  simp only [ho, resolve, invoke, builtin, Sem.run_bind, Sem.run_pure, Result.andThen_ok, List.map_toArray, List.map_cons, List.map_nil, hs, hx, hr]
  exact h v' w' h2 h3 key
/-- All blocks stay but those of X. -/
structure Fr (X : Nat → Prop) (w w' : World) : Prop where
  os : w'.os = w.os
  tape : w'.tape = w.tape
  output : w'.output = w.output
  size : w.heap.size ≤ w'.heap.size
  block : ∀ k, k < w.heap.size → ¬ X k → w'.heap[k]? = w.heap[k]?
theorem Fr.refl (X : Nat → Prop) (w : World) : Fr X w w := ⟨rfl, rfl, rfl, Nat.le_refl _, fun _ _ _ => rfl⟩
theorem Fr.trans {X : Nat → Prop} {a b c : World} (h : Fr X a b) (k : Fr X b c) : Fr X a c := ⟨k.os.trans h.os, k.tape.trans h.tape, k.output.trans h.output, Nat.le_trans h.size k.size, fun j hj hx => (k.block j (Nat.lt_of_lt_of_le hj h.size) hx).trans (h.block j hj hx)⟩
theorem Fr.of {X : Nat → Prop} {w w' : World} (h : Below w.heap.size w w') : Fr X w w' := ⟨h.os, h.tape, h.output, h.size, fun k hk _ => h.block k hk⟩
theorem Fr.grown {X : Nat → Prop} {g : Nat} {w w' : World} (h : w.grownBy w' (some g)) (hg : X g) : Fr X w w' := ⟨h.os, h.tape, h.output, h.size, fun k hk hx => h.block k hk (fun e => hx (by cases e; exact hg))⟩
theorem Fr.row {X : Nat → Prop} {w w' : World} (h : Fr X w w') {k : Nat} {o : Obj} (hk : w.heap[k]? = some o) (hx : ¬ X k) : w'.heap[k]? = some o := (h.block k (lt_of_row hk) hx).trans hk
theorem Fr.below {X : Nat → Prop} {w w' : World} {B : Nat} (h : Fr X w w') (hX : ∀ k, X k → B ≤ k) (hB : B ≤ w.heap.size) : Below B w w' := ⟨h.os, h.tape, h.output, h.size, fun k hk => h.block k (by omega) (fun hx => by have := hX k hx; omega)⟩

theorem Fr.mono {X Y : Nat → Prop} {w w' : World} (h : Fr X w w') (hXY : ∀ k, k < w.heap.size → X k → Y k) : Fr Y w w' := ⟨h.os, h.tape, h.output, h.size, fun k hk hx => h.block k hk (fun e => hx (hXY k hk e))⟩
theorem Fr.step {X Y : Nat → Prop} {a b c : World} (h : Fr X a b) (k : Fr Y b c) (hXY : ∀ j, j < a.heap.size → Y j → X j) : Fr X a c := ⟨k.os.trans h.os, k.tape.trans h.tape, k.output.trans h.output, Nat.le_trans h.size k.size, fun j hj hx => (k.block j (Nat.lt_of_lt_of_le hj h.size) (fun e => hx (hXY j hj e))).trans (h.block j hj hx)⟩
theorem Fr.setBlock {X : Nat → Prop} {w w' : World} (h : Fr X w w') {b : Nat} (hb : X b) (o : Obj) : Fr X w (setBlock w' b o) := ⟨h.os, h.tape, h.output, by simpa [ChangeMaps.setBlock] using h.size, fun k hk hx => by
  rw [← h.block k hk hx]
  simp only [ChangeMaps.setBlock]
  exact Array.getElem?_setIfInBounds_ne (fun e => hx (by rw [← e]; exact hb))⟩
theorem Fr.setCell {X : Nat → Prop} {w w' : World} (h : Fr X w w') {b o : Nat} (hb : X b) (v : Value) : Fr X w (w'.setCell ⟨b, o, none⟩ v) := ⟨h.os, h.tape, h.output, by simpa using h.size, fun k hk hx => by
  rw [← h.block k hk hx]
  exact heap_setCell_other _ _ _ _ (fun e => hx (e ▸ hb))⟩
theorem Fr.setRow {X : Nat → Prop} {w w' : World} (h : Fr X w w') {b : Nat} (hb : X b) (cs : Array Value) : Fr X w (w'.setRow b cs) := ⟨h.os, h.tape, h.output, by rw [size_setRow]; exact h.size, fun k hk hx => by
  rw [← h.block k hk hx]
  exact setRow_other _ _ _ _ (fun e => hx (e ▸ hb))⟩

/-! Lists. -/
def gs (l : List Sr) (i : Nat) : Sr := l.getD i zsr
def AllOk (l : List Sr) : Prop := ∀ s ∈ l, s.ok
theorem gs_mem {l : List Sr} {i : Nat} (h : i < l.length) : gs l i ∈ l := by
  rw [gs, List.getD_eq_getElem?_getD, List.getElem?_eq_getElem h]
  exact List.getElem_mem h
theorem gs_get {l : List Sr} {i : Nat} (h : i < l.length) : l[i]? = some (gs l i) := by
  rw [gs, List.getD_eq_getElem?_getD, List.getElem?_eq_getElem h]; rfl
theorem AllOk.at {l : List Sr} (h : AllOk l) {i : Nat} (hi : i < l.length) : (gs l i).ok := h _ (gs_mem hi)
theorem take_snocS (l : List Sr) (k : Nat) (h : k < l.length) : l.take (k + 1) = l.take k ++ [gs l k] := by
  rw [List.take_succ_eq_append_getElem h, gs, List.getD_eq_getElem?_getD, List.getElem?_eq_getElem h]; rfl
theorem AllOk.take {l : List Sr} (h : AllOk l) (k : Nat) : AllOk (l.take k) := fun s hs => h s (List.mem_of_mem_take hs)
theorem AllOk.app {l r : List Sr} (h : AllOk l) (k : AllOk r) : AllOk (l ++ r) := fun s hs => by
  rcases List.mem_append.1 hs with q | q
  · exact h s q
  · exact k s q
theorem AllOk.one {s : Sr} (h : s.ok) : AllOk [s] := fun x hx => by
  rw [List.mem_singleton] at hx
  rw [hx]; exact h
theorem AllOk.nil : AllOk [] := fun s hs => by cases hs
/-- Their cells, one behind the other. -/
def sps (l : List Sr) : List Value := l.flatMap srl
def lbl (s : Sr) : List Value := (chc s.h s.n).toList
def lbs (l : List Sr) : List Value := l.flatMap lbl
theorem lbl_len {s : Sr} (h : s.ok) : (lbl s).length = 33 := by rw [lbl, Array.length_toList, chc_size s.h h.1]
theorem flat_len {f : Sr → List Value} {n : Nat} : ∀ (l : List Sr), (∀ s ∈ l, (f s).length = n) → (l.flatMap f).length = l.length * n
  | [], _ => by simp
  | s :: r, h => by
    rw [List.flatMap_cons, List.length_append, flat_len r (fun x hx => h x (by simp [hx])), h s (by simp), List.length_cons, Nat.add_mul]
    omega
theorem flat_at {f : Sr → List Value} {n : Nat} : ∀ (l : List Sr), (∀ s ∈ l, (f s).length = n) → ∀ i j, i < l.length → j < n → (l.flatMap f)[i * n + j]? = (f (gs l i))[j]?
  | [], _, i, _, hi, _ => by simp at hi
  | s :: r, h, 0, j, _, hj => by
    rw [List.flatMap_cons, Nat.zero_mul, Nat.zero_add, List.getElem?_append_left (by rw [h s (by simp)]; exact hj)]
    rfl
  | s :: r, h, i + 1, j, hi, hj => by
    have e := h s (by simp)
    rw [List.flatMap_cons, List.getElem?_append_right (by rw [e, Nat.add_mul]; omega)]
    have : (i + 1) * n + j - (f s).length = i * n + j := by rw [e, Nat.add_mul]; omega
    rw [this, flat_at r (fun x hx => h x (by simp [hx])) i j (by simpa using hi) hj]
    rfl
theorem sps_len {l : List Sr} (h : AllOk l) : (sps l).length = l.length * 65 := flat_len l (fun s hs => srl_len (h s hs))
theorem lbs_len {l : List Sr} (h : AllOk l) : (lbs l).length = l.length * 33 := flat_len l (fun s hs => lbl_len (h s hs))
theorem sps_app (a b : List Sr) : sps (a ++ b) = sps a ++ sps b := by simp [sps]
theorem lbs_app (a b : List Sr) : lbs (a ++ b) = lbs a ++ lbs b := by simp [lbs]
theorem sps_one (s : Sr) : sps [s] = srl s := by simp [sps]
theorem lbs_one (s : Sr) : lbs [s] = lbl s := by simp [lbs]
theorem sps_ones (l : List Sr) : ∀ u ∈ sps l, u.oneCell' = true := by
  intro u hu
  obtain ⟨s, _, h⟩ := List.mem_flatMap.1 hu
  exact srl_one s u h
theorem lbl_one (s : Sr) : ∀ u ∈ lbl s, u.oneCell' = true := fun u hu => (Array.all_eq_true_iff_forall_mem.1 (chc_one s.h s.n)) u (by simpa [lbl] using hu)
theorem lbs_ones (l : List Sr) : ∀ u ∈ lbs l, u.oneCell' = true := by
  intro u hu
  obtain ⟨s, _, h⟩ := List.mem_flatMap.1 hu
  exact lbl_one s u h
/-- A part of a row, from a place on. -/
theorem range_own {W : World} {base g cap : Nat} {T : TypeId} {n k m : Nat} {xs ys : List Value} (h : W.ownsRow base T n (.slice (some ⟨g, 0, none⟩) m cap) m xs) (hk : ∀ j x, ys[j]? = some x → xs[k + j]? = some x) : W.rangeAt g k ys := by
  intro j x hx
  have := h.cells (g := g) rfl (k + j) x (hk j x hx)
  rw [addr_add, Nat.zero_add] at this
  exact this
theorem flat_mem {f : Sr → List Value} {n : Nat} {l : List Sr} (h : ∀ s ∈ l, (f s).length = n) {i : Nat} (hi : i < l.length) : ∀ j x, (f (gs l i))[j]? = some x → (l.flatMap f)[i * n + j]? = some x := by
  intro j x hx
  have hj : j < n := by have := (List.getElem?_eq_some_iff.1 hx).1; rw [h _ (gs_mem hi)] at this; exact this
  rw [flat_at l h i j hi hj]
  exact hx
/-- Spares handed in. -/
def SpL (W : World) (v : Value) (l : List Sr) : Prop := ∃ ao cap, v = .slice ao l.length cap ∧ l.length ≤ 2069668946341 ∧ l.length ≤ cap ∧ (ao = none → cap = 0) ∧ AllOk l ∧ ∀ i, i < l.length → ∃ b off, ao = some ⟨b, off, none⟩ ∧ b < W.heap.size ∧ W.rangeAt b (off + i * 65) (srl (gs l i))
theorem rangeAt_keep {W V : World} {b o : Nat} {cs : List Value} (h : W.rangeAt b o cs) (hb : V.heap[b]? = W.heap[b]?) : V.rangeAt b o cs := by
  intro j x hx
  have := h j x hx
  simp only [World.cell?] at this ⊢
  rw [hb]
  exact this
theorem SpL.keepN {W V : World} {v : Value} {l : List Sr} (h : SpL W v l) (hs : W.heap.size ≤ V.heap.size) (hb : ∀ b off, v = .slice (some ⟨b, off, none⟩) l.length (match v with | .slice _ _ c => c | _ => 0) → b < W.heap.size → V.heap[b]? = W.heap[b]?) : SpL V v l := by
  obtain ⟨ao, cap, rfl, h1, h2, h3, h4, h5⟩ := h
  refine ⟨ao, cap, rfl, h1, h2, h3, h4, fun i hi => ?_⟩
  obtain ⟨b, off, rfl, hb1, hr⟩ := h5 i hi
  exact ⟨b, off, rfl, by omega, rangeAt_keep hr (hb b off rfl hb1)⟩
theorem SpL.keep {W V : World} {v : Value} {l : List Sr} (h : SpL W v l) (hb : Below W.heap.size W V) : SpL V v l := h.keepN hb.size (fun b _ _ h1 => hb.block b h1)
theorem SpL.form {W : World} {v : Value} {l : List Sr} (h : SpL W v l) : ∃ ao cap, v = .slice ao l.length cap := by
  obtain ⟨ao, cap, e, _⟩ := h
  exact ⟨ao, cap, e⟩
theorem SpL.len {W : World} {v : Value} {l : List Sr} (h : SpL W v l) : l.length ≤ 2069668946341 := by
  obtain ⟨_, _, _, h, _⟩ := h
  exact h
theorem SpL.ok {W : World} {v : Value} {l : List Sr} (h : SpL W v l) : AllOk l := by
  obtain ⟨_, _, _, _, _, _, h, _⟩ := h
  exact h
theorem SpL.at {W : World} {ao : Option Addr} {k cap : Nat} {l : List Sr} (h : SpL W (.slice ao k cap) l) {i : Nat} (hi : i < l.length) : ∃ b off, ao = some ⟨b, off, none⟩ ∧ b < W.heap.size ∧ W.rangeAt b (off + i * 65) (srl (gs l i)) := by
  obtain ⟨ao', cap', e, _, _, _, _, hc⟩ := h
  cases e
  exact hc i hi
/-- Spares in a row of one's own. -/
def OwnS (W : World) (base : Nat) (v : Value) (l : List Sr) : Prop := W.ownsRow base 60 65 v l.length (sps l) ∧ AllOk l
theorem own_move {W W' : World} {b : Nat} {T : TypeId} {z n : Nat} {v : Value} {xs : List Value} (h : W.ownsRow b T z v n xs) (hm : ∀ g, v.ownBlock = some g → W'.heap[g]? = W.heap[g]?) : W'.ownsRow b T z v n xs := by
  obtain ⟨h1, h2⟩ := h
  refine ⟨h1, ?_⟩
  rcases h2 with h2 | ⟨g, cap, cur, rfl, hb, hg, rest⟩
  · exact .inl h2
  · exact .inr ⟨g, cap, cur, rfl, hb, (hm g rfl).trans hg, rest⟩
theorem own_keep {W W' : World} {b : Nat} {T : TypeId} {z n : Nat} {v : Value} {xs : List Value} (h : W.ownsRow b T z v n xs) (hb : Below W.heap.size W W') : W'.ownsRow b T z v n xs := own_move h (fun g e => hb.block g (h.lt g e).2)
theorem own_down {W : World} {b c : Nat} {T : TypeId} {z n : Nat} {v : Value} {xs : List Value} (h : W.ownsRow b T z v n xs) (hc : c ≤ b) : W.ownsRow c T z v n xs := by
  obtain ⟨h1, h2⟩ := h
  refine ⟨h1, ?_⟩
  rcases h2 with h2 | ⟨g, cap, cur, rfl, hb, rest⟩
  · exact .inl h2
  · exact .inr ⟨g, cap, cur, rfl, by omega, rest⟩
theorem slen_own {W : World} {b : Nat} {T : TypeId} {sz : Nat} {v : Value} {n : Nat} {xs : List Value} (h : W.ownsRow b T sz v n xs) : ∃ ao cap, v = .slice ao n cap := by
  obtain ⟨_, ⟨rfl, rfl⟩ | ⟨g, cap, cur, rfl, _⟩⟩ := h
  · exact ⟨_, _, rfl⟩
  · exact ⟨_, _, rfl⟩
theorem OwnS.keep {W V : World} {b : Nat} {v : Value} {l : List Sr} (h : OwnS W b v l) (hb : Below W.heap.size W V) : OwnS V b v l := ⟨own_keep h.1 hb, h.2⟩
theorem OwnS.spl {W : World} {b : Nat} {v : Value} {l : List Sr} (h : OwnS W b v l) (hl : l.length ≤ 2069668946341) : SpL W v l := by
  obtain ⟨h1, h2⟩ := h
  have h0 := h1
  obtain ⟨_, ⟨rfl, h3⟩ | ⟨g, cap, cur, rfl, hb, hg, hn, hm, hs, ht⟩⟩ := h0
  · exact ⟨none, 0, by rw [h3], hl, by omega, fun _ => rfl, h2, fun i hi => by omega⟩
  · refine ⟨_, cap, rfl, hl, hn, (fun e => by cases e), h2, fun i hi => ⟨g, 0, rfl, lt_of_row hg, ?_⟩⟩
    rw [Nat.zero_add]
    exact range_own h1 (flat_mem (fun s hs => srl_len (h2 s hs)) hi)
theorem own_nilS (W : World) (b : Nat) : OwnS W b (.slice none 0 0) [] := ⟨⟨rfl, .inl ⟨rfl, rfl⟩⟩, AllOk.nil⟩
theorem own_empS (W : World) : OwnS (W.alloc (.cells #[] 60)) W.heap.size (.slice (some ⟨W.heap.size, 0, none⟩) 0 0) [] := ⟨⟨rfl, .inr ⟨W.heap.size, 0, #[], rfl, Nat.le_refl _, hp1_0 _ _, Nat.le_refl _, by decide, rfl, rfl⟩⟩, AllOk.nil⟩

/-! Stores. -/
/-- The blocks of a store. -/
def own3 (g b : Nat) (v : Value) (k : Nat) : Prop := k = g ∨ k = b ∨ v.ownBlock = some k
def ents (l : List Sr) : List (Lb × Value) := l.map fun s => (s.lb, .agg (irow .u8 s.m))
structure Sto (W : World) (base g b : Nat) (v : Value) (most : Int) (l : List Sr) : Prop where
  row : W.heap[g]? = some (.cells #[.int .i64 most, v, .map (some b)] 71 (0, 0))
  own : W.ownsRow base 86 33 v l.length (lbs l)
  map : MapIs W b lenc (ents l)
  ok : AllOk l
  nod : (l.map Sr.lb).Nodup
  most0 : 0 ≤ most ∧ most ≤ 2000
  len : (l.length : Int) ≤ most
  bg : base ≤ g
  bb : base ≤ b
  ne : v.ownBlock ≠ some g
theorem ents_ok {l : List Sr} (h : AllOk l) : ∀ y ∈ ents l, lok y.1 := by
  intro y hy
  obtain ⟨s, hs, rfl⟩ := List.mem_map.1 hy
  exact (h s hs).1
theorem ents_keys (l : List Sr) : (ents l).map (·.1) = l.map Sr.lb := by
  rw [ents, List.map_map]; rfl
theorem ents_vals (l : List Sr) : (ents l).map (·.2) = l.map (fun s => Value.agg (irow .u8 s.m)) := by
  rw [ents, List.map_map]; rfl
theorem Sto.mapb {W : World} {base g b : Nat} {v : Value} {most : Int} {l : List Sr} (h : Sto W base g b v most l) : b ≠ g ∧ v.ownBlock ≠ some b := by
  obtain ⟨es, c, h1, _⟩ := h.map
  refine ⟨fun e => ?_, fun e => ?_⟩
  · subst e
    have := h.row
    rw [h1] at this
    cases this
  · rcases h.own.2 with ⟨rfl, _⟩ | ⟨g1, cap, cur, rfl, hb, hg, _⟩
    · cases e
    · cases e
      rw [h1] at hg
      cases hg
theorem Sto.low {W : World} {base g b : Nat} {v : Value} {most : Int} {l : List Sr} (h : Sto W base g b v most l) : ∀ k, own3 g b v k → base ≤ k ∧ k < W.heap.size := by
  rintro k (rfl | rfl | e)
  · exact ⟨h.bg, lt_of_row h.row⟩
  · exact ⟨h.bb, h.map.lt⟩
  · exact h.own.lt k e
theorem Sto.move {W V : World} {base g b : Nat} {v : Value} {most : Int} {l : List Sr} (h : Sto W base g b v most l) (hm : ∀ k, own3 g b v k → V.heap[k]? = W.heap[k]?) : Sto V base g b v most l :=
  ⟨(hm g (.inl rfl)).trans h.row, own_move h.own (fun k e => hm k (.inr (.inr e))), h.map.row (fun _ ho => (hm b (.inr (.inl rfl))).trans ho), h.ok, h.nod, h.most0, h.len, h.bg, h.bb, h.ne⟩
theorem Sto.keep {W V : World} {base g b : Nat} {v : Value} {most : Int} {l : List Sr} (h : Sto W base g b v most l) (hb : Below W.heap.size W V) : Sto V base g b v most l := h.move (fun k e => hb.block k (h.low k e).2)
theorem Sto.below {W V : World} {base g b : Nat} {v : Value} {most : Int} {l : List Sr} (h : Sto W base g b v most l) (hf : Fr (own3 g b v) W V) (hbs : base ≤ W.heap.size) : Below base W V := hf.below (fun k e => (h.low k e).1) hbs
end Go.Proofs.Ytebgdenfaiinmaa
