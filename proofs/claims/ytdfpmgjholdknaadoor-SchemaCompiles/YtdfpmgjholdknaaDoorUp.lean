import Derived.Test.YtdfpmgjholdknaaDoorProg
import Derived.WalkKit
import Derived.WalkSpells
import Derived.WalkLawsBesides
import Derived.Lib.QuietBelow
import Derived.Laws.BitsAllLaws
import Derived.BigQuiet
import Derived.WalkMore
import Derived.Deep.MidRow
import Derived.Test.YtdfpmgjholdknaaDoorKa
import Derived.Test.YtdfpmgjholdknaaDoorUo
namespace Go.Proofs.YtdfpmgjholdknaaDoor
set_option maxRecDepth 100000
open Go Go.RowKit Go.Sort
attribute [local go_sem] setCell_drewN alloc_drewN
/-- A part of a block is there to be stored into. -/
theorem there_of_row {W : World} {g : Nat} {cs : Array Value} {t : TypeId} (h : W.heap[g]? = some (.cells cs t (0, 0))) {o n : Nat} (hn : o + n ≤ cs.size) : W.there g o n := by
  intro j hj
  constructor
  · rw [cell_of_row _ _ _ _ _ _ h]
    simp; omega
  · simp [World.frozen?, h]
def hzr : List Value := [.int .i64 0, .int .i64 0, .int .u64 0, .int .u64 0, .slice none 0 0]
def hmk : List Value := [.int .i64 (-77), .int .i64 0, .int .u64 0, .int .u64 0, .slice none 0 0]
/-- A schema in memory of its own, with marks behind each list. -/
inductive HSl (W : World) (S : Nat → Prop) : Value → List Slt → Prop
  | mk (G : Nat) (ts : List Slt) (us : List Value) (hl : ts.length ≤ 10000) (hG : G < W.heap.size) (hS : S G)
      (h : ∀ i, i < ts.length → W.rangeAt G (i * 5) (srow (gs ts i) (gvs us i)) ∧ Sok (gs ts i))
      (hm : ∀ i, ts.length ≤ i → i < ts.length + 3 → W.rangeAt G (i * 5) hmk)
      (hs : ∀ i, i < ts.length → HSl W S (gvs us i) (gs ts i).sub) : HSl W S (.slice (some ⟨G, 0, none⟩) ts.length (ts.length + 3)) ts
theorem HSl.slo {W : World} {S : Nat → Prop} {v : Value} {ts : List Slt} (h : HSl W S v ts) : Slo W v ts := by
  induction h with
  | mk G ts us hl hG hS h hm hs ih =>
    refine .mk (some ⟨G, 0, none⟩) _ ts us (by omega) (by omega) (fun e => by cases e) (fun i hi => ⟨G, 0, rfl, hG, ?_, (h i hi).2⟩) ih
    rw [Nat.zero_add]
    exact (h i hi).1
theorem HSl.keep {W V : World} {S T : Nat → Prop} {v : Value} {ts : List Slt} (h : HSl W S v ts) (hs : W.heap.size ≤ V.heap.size) (hb : ∀ b, b < W.heap.size → S b → V.heap[b]? = W.heap[b]? ∧ T b) : HSl V T v ts := by
  induction h with
  | mk G ts us hl hG hS h hm _ ih =>
    exact .mk G ts us hl (by omega) (hb G hG hS).2 (fun i hi => ⟨range_same (h i hi).1 (hb G hG hS).1, (h i hi).2⟩) (fun i h1 h2 => range_same (hm i h1 h2) (hb G hG hS).1) ih
theorem HSl.form {W : World} {S : Nat → Prop} {v : Value} {ts : List Slt} (h : HSl W S v ts) : ∃ G, v = .slice (some ⟨G, 0, none⟩) ts.length (ts.length + 3) ∧ S G := by
  cases h with
  | mk G _ us hl hG hS h hm hs => exact ⟨G, rfl, hS⟩
theorem slL_len : ∀ (ts : List Slt) (l : Int), 0 ≤ slL ts l → (ts.length : Int) ≤ l
  | [], l, h => by rw [slL] at h; simpa using h
  | t :: ts, l, h => by
    rw [slL_cons] at h
    split at h
    · have h1 := slL_len ts _ h
      have h2 := (slL_le t.sub (l - 1)).1
      rw [List.length_cons]; omega
    · omega
theorem slL_at : ∀ (ts : List Slt) (l : Int) (i : Nat), 0 ≤ slL ts l → i < ts.length → ∃ l', l' ≤ l ∧ 0 ≤ slL (gs ts i).sub l'
  | [], l, i, _, hi => by simp at hi
  | t :: ts, l, i, h, hi => by
    rw [slL_cons] at h
    split at h
    · have h2 := (slL_le t.sub (l - 1)).1
      cases i with
      | zero => exact ⟨l - 1, by omega, by have := (slL_le ts (slL t.sub (l - 1))).1; show 0 ≤ slL t.sub (l - 1); omega⟩
      | succ i =>
        obtain ⟨l', h3, h4⟩ := slL_at ts _ i h (by simpa using hi)
        exact ⟨l', by omega, h4⟩
    · omega
/-- The rows under way. -/
def hrow (ts : List Slt) (us : List Value) (k i : Nat) : List Value := if i < k then (if i < ts.length then srow (gs ts i) (gvs us i) else hmk) else hzr
def Hrw (W : World) (G : Nat) (ts : List Slt) (us : List Value) (k : Nat) : Prop := ∃ cs, W.heap[G]? = some (.cells cs 55 (0, 0)) ∧ cs.size = (ts.length + 3) * 5 ∧ ∀ i c, i < ts.length + 3 → c < 5 → cs[i * 5 + c]? = (hrow ts us k i)[c]?
theorem Hrw.keep {W V : World} {G : Nat} {ts : List Slt} {us : List Value} {k : Nat} (h : Hrw W G ts us k) (hb : V.heap[G]? = W.heap[G]?) : Hrw V G ts us k := by
  obtain ⟨cs, h1, h2⟩ := h
  exact ⟨cs, hb.trans h1, h2⟩
theorem Hrw.range {W : World} {G : Nat} {ts : List Slt} {us : List Value} {k i : Nat} (h : Hrw W G ts us k) (hi : i < ts.length + 3) (hl : (hrow ts us k i).length = 5) : W.rangeAt G (i * 5) (hrow ts us k i) := by
  obtain ⟨cs, h1, h2, h3⟩ := h
  intro j v hv
  have hj := (List.getElem?_eq_some_iff.1 hv).1
  rw [cell_of_row _ _ _ _ _ _ h1, h3 i j hi (by omega)]
  exact hv
theorem hrow_len (ts : List Slt) (us : List Value) (k i : Nat) : (hrow ts us k i).length = 5 := by
  unfold hrow
  split
  · split <;> rfl
  · rfl
theorem infoSl : ∃ i, Tryd.prog.info? 55 = some i ∧ i.zero = some (.agg #[.int .i64 0, .int .i64 0, .int .u64 0, .int .u64 0, .slice none 0 0]) ∧ i.size = 5 ∧ i.bytes = 56 := ⟨_, rfl, rfl, rfl, rfl⟩
theorem make_sl (n : Nat) (hn : n ≤ 10003) (w : World) : ∃ cs, (Instr.makeSlice 22 (.int .i64 (n : Int)) (.int .i64 (n : Int))).run Tryd.prog w = .ok (.slice (some ⟨w.heap.size, 0, none⟩) n n) (w.alloc (.cells cs 55)) ∧ cs.size = n * 5 ∧ ∀ i c, i < n → c < 5 → cs[i * 5 + c]? = hzr[c]? := by
  obtain ⟨i0, hi, hz0, hz1, hz2⟩ := infoSl
  have h := run_make (P := Tryd.prog) w 22 55 i0 _ Tryd.underlying22 hi hz0 .i64 .i64 (n : Int) (n : Int) (by omega) (by omega) (by rw [hz2]; omega) (by omega)
  rw [hz1, Int.toNat_natCast] at h
  refine ⟨_, h, by simp [madeCells], fun i c h1 h2 => ?_⟩
  have h3 : i * 5 + c < n * 5 := by omega
  have h4 : (i * 5 + c) % 5 = c := by omega
  rcases (by omega : c = 0 ∨ c = 1 ∨ c = 2 ∨ c = 3 ∨ c = 4) with rfl | rfl | rfl | rfl | rfl
  · rw [Nat.add_zero] at h3 h4 ⊢
    simp [madeCells, Value.cells, hzr, h3, h4]
  all_goals simp [madeCells, Value.cells, hzr, h3, h4]
/-- A mark laid. -/
theorem Hrw.mark {W : World} {G : Nat} {ts : List Slt} {us : List Value} {k : Nat} (h : Hrw W G ts us k) (hk : ts.length ≤ k) (hk3 : k < ts.length + 3) : Hrw (W.setCell ⟨G, k * 5, none⟩ (.int .i64 (-77))) G ts us (k + 1) := by
  obtain ⟨cs, h1, h2, h3⟩ := h
  refine ⟨_, heap_setCell_same W G (k * 5) cs _ _ h1, by simp [h2], fun i c hi hc => ?_⟩
  rw [Array.getElem?_setIfInBounds]
  by_cases e : k * 5 = i * 5 + c
  · have e1 : i = k := by omega
    have e2 : c = 0 := by omega
    subst e1 e2
    rw [if_pos e, if_pos (by omega)]
    unfold hrow
    rw [if_pos (by omega), if_neg (by omega)]; rfl
  · rw [if_neg e, h3 i c hi hc]
    by_cases e1 : i = k
    · subst e1
      have c0 : c ≠ 0 := by omega
      unfold hrow
      rw [if_neg (by omega), if_pos (by omega), if_neg (by omega)]
      rcases (by omega : c = 1 ∨ c = 2 ∨ c = 3 ∨ c = 4) with rfl | rfl | rfl | rfl <;> rfl
    · unfold hrow
      by_cases e2 : i < k
      · rw [if_pos e2, if_pos (show i < k + 1 by omega)]
      · rw [if_neg e2, if_neg (show ¬ i < k + 1 by omega)]
/-- A slot laid: its mark, its cells, and its own Sub. -/
theorem Hrw.slot {W V : World} {G : Nat} {ts : List Slt} {us : List Value} {k : Nat} {u v : Value} (h : Hrw W G ts us k) (hk : k < ts.length) (hu : us.length = k) (hV : V.heap[G]? = ((W.setCell ⟨G, k * 5, none⟩ (.int .i64 (-77))).setCells G (k * 5) (srow (gs ts k) u)).heap[G]?) : Hrw (V.setCell ⟨G, k * 5 + 4, none⟩ v) G ts (us ++ [v]) (k + 1) := by
  obtain ⟨cs, h1, h2, h3⟩ := h
  have s1 := heap_setCell_same W G (k * 5) cs _ (.int .i64 (-77)) h1
  have s2 : ((W.setCell ⟨G, k * 5, none⟩ (.int .i64 (-77))).setCells G (k * 5) (srow (gs ts k) u)).heap[G]? = _ :=
    heap_setCell_same _ G (k * 5 + 1 + 1 + 1 + 1) _ _ u (heap_setCell_same _ G (k * 5 + 1 + 1 + 1) _ _ (.int .u64 ((gs ts k).most : Int)) (heap_setCell_same _ G (k * 5 + 1 + 1) _ _ (.int .u64 ((gs ts k).least : Int)) (heap_setCell_same _ G (k * 5 + 1) _ _ (.int .i64 (gs ts k).kind) (heap_setCell_same _ G (k * 5) _ _ (.int .i64 (gs ts k).no) s1))))
  refine ⟨_, heap_setCell_same V G (k * 5 + 4) _ _ v (hV.trans s2), by simp [h2], fun i c hi hc => ?_⟩
  simp only [Array.getElem?_setIfInBounds, Array.size_setIfInBounds]
  by_cases e1 : i = k
  · subst e1
    have e3 : hrow ts (us ++ [v]) (i + 1) i = srow (gs ts i) v := by
      unfold hrow; rw [if_pos (by omega), if_pos hk, gvs_top _ _ _ hu]
    rw [e3]
    have hb : i * 5 + c < cs.size := by omega
    rcases (by omega : c = 0 ∨ c = 1 ∨ c = 2 ∨ c = 3 ∨ c = 4) with rfl | rfl | rfl | rfl | rfl
    · rw [if_neg (by omega), if_neg (by omega), if_neg (by omega), if_neg (by omega), if_neg (by omega), if_pos (by omega), if_pos (by omega)]; rfl
    · rw [if_neg (by omega), if_neg (by omega), if_neg (by omega), if_neg (by omega), if_pos (by omega), if_pos (by omega)]; rfl
    · rw [if_neg (by omega), if_neg (by omega), if_neg (by omega), if_pos (by omega), if_pos (by omega)]; rfl
    · rw [if_neg (by omega), if_neg (by omega), if_pos (by omega), if_pos (by omega)]; rfl
    · rw [if_pos (by omega), if_pos (by omega)]; rfl
  · rw [if_neg (by omega), if_neg (by omega), if_neg (by omega), if_neg (by omega), if_neg (by omega), if_neg (by omega), if_neg (by omega), h3 i c hi hc]
    unfold hrow
    by_cases e2 : i < k
    · rw [if_pos e2, if_pos (by omega), if_pos (by omega), if_pos (by omega), gvs_low _ _ _ (by omega)]
    · rw [if_neg e2, if_neg (by omega)]
theorem heap_setCells_else {g k : Nat} (hk : k ≠ g) : ∀ (vs : List Value) (o : Nat) (w : World), (w.setCells g o vs).heap[k]? = w.heap[k]?
  | [], _, _ => rfl
  | v :: r, o, w => (heap_setCells_else hk r (o + 1) _).trans (heap_setCell_other w _ k v hk)
theorem below_setCells {n g : Nat} {w0 : World} (hg : n ≤ g) : ∀ (vs : List Value) (o : Nat) (w : World), Below n w0 w → Below n w0 (w.setCells g o vs)
  | [], _, _, h => h
  | v :: r, o, _, h => below_setCells hg r (o + 1) _ (h.setCell hg v)
theorem size_setCells {g : Nat} : ∀ (vs : List Value) (o : Nat) (w : World), (w.setCells g o vs).heap.size = w.heap.size
  | [], _, _ => rfl
  | v :: r, o, w => by
    show ((w.setCell ⟨g, o, none⟩ v).setCells g (o + 1) r).heap.size = _
    rw [size_setCells r (o + 1)]; simp
theorem setCells_row {g : Nat} {t : TypeId} : ∀ (vs : List Value) (o : Nat) (w : World) (cs : Array Value), w.heap[g]? = some (.cells cs t (0, 0)) → ∃ cs', (w.setCells g o vs).heap[g]? = some (.cells cs' t (0, 0)) ∧ cs'.size = cs.size
  | [], _, _, cs, h => ⟨cs, h, rfl⟩
  | v :: r, o, w, cs, h => by
    obtain ⟨cs', h1, h2⟩ := setCells_row r (o + 1) _ _ (heap_setCell_same w g o cs t v h)
    exact ⟨cs', h1, by rw [h2]; simp⟩
set_option maxRecDepth 100000 in
set_option maxHeartbeats 16000000 in
theorem l_hand {W : World} {v : Value} {ts : List Slt} (h : Slo W v ts) : ∀ (l : Int), l ≤ 10000 → 0 ≤ slL ts l → ∀ (w : World), Below W.heap.size W w → Calls Tryd.prog 13 #[v] w fun e w' => ∃ v', e = .returned v' ∧ Below w.heap.size w w' ∧ HSl w' (fun b => w.heap.size ≤ b) v' ts := by
  induction h with
  | mk ao cap ts us hl hc hn h hs ih =>
    intro l hl1 hl2 w hw
    have hlen := slL_len ts l hl2
    have h4 : ts.length ≤ 10000 := by omega
    obtain ⟨cs, hmk, hcs1, hcs2⟩ := make_sl (ts.length + 3) (by omega) w
    have hmk' : (Instr.makeSlice 22 (.int .i64 ((ts.length : Int) + 3)) (.int .i64 ((ts.length : Int) + 3))).run Tryd.prog w = .ok (.slice (some ⟨w.heap.size, 0, none⟩) (ts.length + 3) (ts.length + 3)) (w.alloc (.cells cs 55)) := hmk
    have hR0 : Hrw (w.alloc (.cells cs 55)) w.heap.size ts [] 0 := ⟨cs, hp1_0 w _, hcs1, fun i c h1 h2 => by unfold hrow; rw [if_neg (by omega)]; exact hcs2 i c h1 h2⟩
    have hba : Below w.heap.size w (w.alloc (.cells cs 55)) := (Below.refl _ _).alloc (Nat.le_refl _) _
    have hsz : (w.alloc (.cells cs 55)).heap.size = w.heap.size + 1 := size_alloc1 _ _
    clear hmk hcs1 hcs2
    go_enter Tryd.func13, Tryd.ntmps13
    go_wp2_with (fail)
    generalize w.alloc (.cells cs 55) = w0 at *
    clear hmk'
    generalize hG : w.heap.size = G at *
    replace hG := hide hG
    go_loopw [4] (fun i wr => ∃ (k : Nat) (vs : List Value), k ≤ ts.length + 3 ∧ i = .int .i64 k ∧ Below G w wr ∧ G < wr.heap.size ∧ vs.length = min k ts.length ∧ Hrw wr G ts vs k ∧ ∀ i, i < min k ts.length → HSl wr (fun b => G < b) (gvs vs i) (gs ts i).sub) (fun i _ => ts.length + 3 - (intOf i).toNat)
    case atStart => exact ⟨0, [], by omega, rfl, hba, by omega, by simp, hR0, fun i hi => by omega⟩
    case round =>
      clear hR0 hba hsz
      obtain ⟨k, vs, hk, rfl, hB, hGl, hvl, hR, hN⟩ := hrel
      have hww : Below W.heap.size W wr := hw.trans (hB.mono (by rw [← hG.out]; exact hw.size))
      by_cases hlt : k < ts.length + 3
      · have hd : decide ((k : Int) < (ts.length : Int) + 3) = true := by simp; omega
        have hd' : ((k : Int) < (ts.length : Int) + 3) := by omega
        have hk1 : 0 ≤ (k : Int) ∧ (k : Int) < (ts.length : Int) + 3 := by omega
        obtain ⟨cc, hcc, hcz, hcv⟩ := id hR
        have fz : wr.frozen? ⟨G, k * 5, none⟩ = false := by simp [World.frozen?, hcc]
        have fc : wr.cell? ⟨G, k * 5, none⟩ = some (.int .i64 0) := by
          rw [cell_of_row _ _ _ _ _ _ hcc]
          have := hcv k 0 hlt (by omega)
          rw [Nat.add_zero] at this
          rw [this]; unfold hrow; rw [if_neg (by omega)]; rfl
        by_cases hkn : k < ts.length
        · have hd2 : decide ((k : Int) < (ts.length : Int)) = true := by simp; omega
          obtain ⟨b, off, hao, hbl, hra, hok⟩ := h k hkn
          have hSl := hs k hkn
          obtain ⟨l', hl3, hl4⟩ := slL_at ts l k hl2 hkn
          have hih := ih k hkn l' (by omega) hl4
          subst hao
          have hGb : W.heap.size ≤ G := by rw [← hG.out]; exact hw.size
          have hbG : b ≠ G := by omega
          obtain ⟨ua, uc, hue⟩ := hSl.form
          rw [Nat.min_eq_left (by omega)] at hvl hN
          have hB1 : Below G w (wr.setCell ⟨G, k * 5, none⟩ (.int .i64 (-77))) := hB.setCell (Nat.le_refl _) _
          have hsz1 : (wr.setCell ⟨G, k * 5, none⟩ (.int .i64 (-77))).heap.size = wr.heap.size := by simp
          have hra1 : (wr.setCell ⟨G, k * 5, none⟩ (.int .i64 (-77))).rangeAt b (off + k * 5) (srow (gs ts k) (gvs us k)) := range_same (rangeS_keep2 hra hww hbl) (heap_setCell_other _ _ b _ hbG)
          have hth : (wr.setCell ⟨G, k * 5, none⟩ (.int .i64 (-77))).there G (k * 5) 5 := there_of_row (heap_setCell_same wr G (k * 5) cc _ _ hcc) (by simp; omega)
          have hR1 := fun (V : World) (u v : Value) hV => hR.slot (V := V) (u := u) (v := v) hkn hvl hV
          generalize hgt : gs ts k = t at *
          replace hgt := hide hgt
          generalize hu : gvs us k = u at *
          subst hue
          clear hu h hs ih hR
          have hra' := hra
          clear hra
          obtain ⟨cs2, hcs2, hcz2⟩ := setCells_row (g := G) [.int .i64 t.no, .int .i64 t.kind, .int .u64 (t.least : Int), .int .u64 (t.most : Int), .slice ua t.sub.length uc] (k * 5) _ _ (heap_setCell_same wr G (k * 5) cc _ (.int .i64 (-77)) hcc)
          have hcz3 : cs2.size = (ts.length + 3) * 5 := by rw [hcz2]; simp [hcz]
          have hcs2' : ((((((wr.setCell ⟨G, k * 5, none⟩ (.int .i64 (-77))).setCell ⟨G, k * 5, none⟩ (.int .i64 t.no)).setCell ⟨G, k * 5 + 1, none⟩ (.int .i64 t.kind)).setCell ⟨G, k * 5 + 2, none⟩ (.int .u64 (t.least : Int))).setCell ⟨G, k * 5 + 3, none⟩ (.int .u64 (t.most : Int))).setCell ⟨G, k * 5 + 4, none⟩ (.slice ua t.sub.length uc)).heap[G]? = some (.cells cs2 55 (0, 0)) := hcs2
          have hB2 : Below G w ((((((wr.setCell ⟨G, k * 5, none⟩ (.int .i64 (-77))).setCell ⟨G, k * 5, none⟩ (.int .i64 t.no)).setCell ⟨G, k * 5 + 1, none⟩ (.int .i64 t.kind)).setCell ⟨G, k * 5 + 2, none⟩ (.int .u64 (t.least : Int))).setCell ⟨G, k * 5 + 3, none⟩ (.int .u64 (t.most : Int))).setCell ⟨G, k * 5 + 4, none⟩ (.slice ua t.sub.length uc)) := below_setCells (Nat.le_refl _) [.int .i64 t.no, .int .i64 t.kind, .int .u64 (t.least : Int), .int .u64 (t.most : Int), .slice ua t.sub.length uc] (k * 5) _ hB1
          have hsz2 : ((((((wr.setCell ⟨G, k * 5, none⟩ (.int .i64 (-77))).setCell ⟨G, k * 5, none⟩ (.int .i64 t.no)).setCell ⟨G, k * 5 + 1, none⟩ (.int .i64 t.kind)).setCell ⟨G, k * 5 + 2, none⟩ (.int .u64 (t.least : Int))).setCell ⟨G, k * 5 + 3, none⟩ (.int .u64 (t.most : Int))).setCell ⟨G, k * 5 + 4, none⟩ (.slice ua t.sub.length uc)).heap.size = wr.heap.size := (size_setCells (g := G) [.int .i64 t.no, .int .i64 t.kind, .int .u64 (t.least : Int), .int .u64 (t.most : Int), .slice ua t.sub.length uc] (k * 5) _).trans hsz1
          have hel2 : ∀ q, q ≠ G → ((((((wr.setCell ⟨G, k * 5, none⟩ (.int .i64 (-77))).setCell ⟨G, k * 5, none⟩ (.int .i64 t.no)).setCell ⟨G, k * 5 + 1, none⟩ (.int .i64 t.kind)).setCell ⟨G, k * 5 + 2, none⟩ (.int .u64 (t.least : Int))).setCell ⟨G, k * 5 + 3, none⟩ (.int .u64 (t.most : Int))).setCell ⟨G, k * 5 + 4, none⟩ (.slice ua t.sub.length uc)).heap[q]? = wr.heap[q]? := fun q hq => (heap_setCells_else hq [.int .i64 t.no, .int .i64 t.kind, .int .u64 (t.least : Int), .int .u64 (t.most : Int), .slice ua t.sub.length uc] (k * 5) _).trans (heap_setCell_other _ _ q _ hq)
          have hww2 : Below W.heap.size W ((((((wr.setCell ⟨G, k * 5, none⟩ (.int .i64 (-77))).setCell ⟨G, k * 5, none⟩ (.int .i64 t.no)).setCell ⟨G, k * 5 + 1, none⟩ (.int .i64 t.kind)).setCell ⟨G, k * 5 + 2, none⟩ (.int .u64 (t.least : Int))).setCell ⟨G, k * 5 + 3, none⟩ (.int .u64 (t.most : Int))).setCell ⟨G, k * 5 + 4, none⟩ (.slice ua t.sub.length uc)) := hw.trans (hB2.mono hGb)
          have hV0 : ((((((wr.setCell ⟨G, k * 5, none⟩ (.int .i64 (-77))).setCell ⟨G, k * 5, none⟩ (.int .i64 t.no)).setCell ⟨G, k * 5 + 1, none⟩ (.int .i64 t.kind)).setCell ⟨G, k * 5 + 2, none⟩ (.int .u64 (t.least : Int))).setCell ⟨G, k * 5 + 3, none⟩ (.int .u64 (t.most : Int))).setCell ⟨G, k * 5 + 4, none⟩ (.slice ua t.sub.length uc)).heap[G]? = ((wr.setCell ⟨G, k * 5, none⟩ (.int .i64 (-77))).setCells G (k * 5) (srow t (.slice ua t.sub.length uc))).heap[G]? := rfl
          have hra0 := rangeS_keep2 hra' hww hbl
          have b0 := hra0 0 _ rfl
          have b1 := hra0 1 _ rfl
          have b2 := hra0 2 _ rfl
          have b3 := hra0 3 _ rfl
          have b4 := hra0 4 _ rfl
          have f1 : wr.cell? ⟨G, k * 5 + 1, none⟩ = some (.int .i64 0) := by rw [cell_of_row _ _ _ _ _ _ hcc, hcv k 1 hlt (by omega)]; unfold hrow; rw [if_neg (by omega)]; rfl
          have f2 : wr.cell? ⟨G, k * 5 + 2, none⟩ = some (.int .u64 0) := by rw [cell_of_row _ _ _ _ _ _ hcc, hcv k 2 hlt (by omega)]; unfold hrow; rw [if_neg (by omega)]; rfl
          have f3 : wr.cell? ⟨G, k * 5 + 3, none⟩ = some (.int .u64 0) := by rw [cell_of_row _ _ _ _ _ _ hcc, hcv k 3 hlt (by omega)]; unfold hrow; rw [if_neg (by omega)]; rfl
          have f4 : wr.cell? ⟨G, k * 5 + 4, none⟩ = some (.slice none 0 0) := by rw [cell_of_row _ _ _ _ _ _ hcc, hcv k 4 hlt (by omega)]; unfold hrow; rw [if_neg (by omega)]; rfl
          have fz1 : wr.frozen? ⟨G, k * 5 + 1, none⟩ = false := by simp [World.frozen?, hcc]
          have fz2 : wr.frozen? ⟨G, k * 5 + 2, none⟩ = false := by simp [World.frozen?, hcc]
          have fz3 : wr.frozen? ⟨G, k * 5 + 3, none⟩ = false := by simp [World.frozen?, hcc]
          have fz4 : wr.frozen? ⟨G, k * 5 + 4, none⟩ = false := by simp [World.frozen?, hcc]
          rw [Nat.add_zero] at b0
          have A2 := hide hB2
          have A4 := hide hsz2
          have A5 := hide hel2
          have A6 := hide hww2
          have A7 := hide hV0
          have A8 := hide hcs2'
          have A9 := hide hR1
          have AN := hide hN
          have hbG' : ¬ G = b := fun e => hbG e.symm
          clear hB1 hB2 hsz1 hsz2 hel2 hww2 hV0 hcs2 hcs2' hR1 hN hcz2 hcc hB hww hl hc hn hra1 hra' hra0 hth hcv
          have cH := hih ((((((wr.setCell ⟨G, k * 5, none⟩ (.int .i64 (-77))).setCell ⟨G, k * 5, none⟩ (.int .i64 t.no)).setCell ⟨G, k * 5 + 1, none⟩ (.int .i64 t.kind)).setCell ⟨G, k * 5 + 2, none⟩ (.int .u64 (t.least : Int))).setCell ⟨G, k * 5 + 3, none⟩ (.int .u64 (t.most : Int))).setCell ⟨G, k * 5 + 4, none⟩ (.slice ua t.sub.length uc)) A6.out
          clear hih
          go_wp2_with (fail)
          generalize ((((((wr.setCell ⟨G, k * 5, none⟩ (.int .i64 (-77))).setCell ⟨G, k * 5, none⟩ (.int .i64 t.no)).setCell ⟨G, k * 5 + 1, none⟩ (.int .i64 t.kind)).setCell ⟨G, k * 5 + 2, none⟩ (.int .u64 (t.least : Int))).setCell ⟨G, k * 5 + 3, none⟩ (.int .u64 (t.most : Int))).setCell ⟨G, k * 5 + 4, none⟩ (.slice ua t.sub.length uc)) = w2 at *
          refine cH.mono ?_
          rintro e_ w3 ⟨v', rfl, hb3, hv'⟩
          clear cH b0 b1 b2 b3 b4 f1 f2 f3 f4 fz1 fz2 fz3 fz4 fz fc
          obtain ⟨G', rfl, hG'⟩ := hv'.form
          have hs2 := A4.out
          have hG2 : G < w2.heap.size := by omega
          have r3 : w3.heap[G]? = some (.cells cs2 55 (0, 0)) := keep hb3 A8.out
          have hR2 := A9.out w3 (.slice ua t.sub.length uc) (.slice (some ⟨G', 0, none⟩) t.sub.length (t.sub.length + 3)) ((hb3.block G hG2).trans A7.out)
          have hB3 : Below G w (w3.setCell ⟨G, k * 5 + 4, none⟩ (.slice (some ⟨G', 0, none⟩) t.sub.length (t.sub.length + 3))) := (A2.out.trans (hb3.mono (by omega))).setCell (Nat.le_refl _) _
          have hs3 := hb3.size
          have hs4 : (w3.setCell ⟨G, k * 5 + 4, none⟩ (.slice (some ⟨G', 0, none⟩) t.sub.length (t.sub.length + 3))).heap.size = w3.heap.size := by simp
          have hN2 : ∀ i, i < min (k + 1) ts.length → HSl (w3.setCell ⟨G, k * 5 + 4, none⟩ (.slice (some ⟨G', 0, none⟩) t.sub.length (t.sub.length + 3))) (fun b => G < b) (gvs (vs ++ [.slice (some ⟨G', 0, none⟩) t.sub.length (t.sub.length + 3)]) i) (gs ts i).sub := fun i hi => by
            rcases Nat.lt_or_ge i k with h6 | h6
            · rw [gvs_low _ _ _ (by omega)]
              exact (AN.out i h6).keep (by omega) fun q h7 h8 => ⟨(heap_setCell_other _ _ q _ (by show q ≠ G; omega)).trans ((hb3.block q (by omega)).trans (A5.out q (by omega))), h8⟩
            · have h7 : i = k := by omega
              subst h7
              rw [gvs_top _ _ _ hvl, hgt.out]
              exact hv'.keep (by omega) fun q h7 h8 => ⟨heap_setCell_other _ _ q _ (by show q ≠ G; omega), by omega⟩
          have fz5 : w3.frozen? ⟨G, k * 5 + 4, none⟩ = false := by simp [World.frozen?, r3]
          obtain ⟨y5, fc5⟩ : ∃ y, w3.cell? ⟨G, k * 5 + 4, none⟩ = some y := by
            rw [cell_of_row _ _ _ _ _ _ r3]
            exact ⟨_, Array.getElem?_eq_getElem (by omega)⟩
          have A10 := hide hR2
          have A11 := hide hB3
          have A12 := hide hN2
          have A13 := hide hs4
          clear hR2 hB3 hN2 hs4 hv' hb3 r3 A2 A4 A5 A6 A7 A8 A9 AN
          go_wp2_with (fail)
          refine ⟨⟨k + 1, vs ++ [.slice (some ⟨G', 0, none⟩) t.sub.length (t.sub.length + 3)], by omega, by go_num, A11.out, by rw [A13.out]; omega, by simp; omega, A10.out, A12.out⟩, ?_⟩
          simp [intOf]; omega
        · have hd2 : decide ((k : Int) < (ts.length : Int)) = false := by simp; omega
          have hR2 := hR.mark (by omega) hlt
          have hB2 : Below G w (wr.setCell ⟨G, k * 5, none⟩ (.int .i64 (-77))) := hB.setCell (Nat.le_refl _) _
          have hsz2 : (wr.setCell ⟨G, k * 5, none⟩ (.int .i64 (-77))).heap.size = wr.heap.size := by simp
          have hN2 : ∀ i, i < min (k + 1) ts.length → HSl (wr.setCell ⟨G, k * 5, none⟩ (.int .i64 (-77))) (fun b => G < b) (gvs vs i) (gs ts i).sub := fun i hi => (hN i (by omega)).keep (by omega) fun q _ h2 => ⟨heap_setCell_other _ _ q _ (by show q ≠ G; omega), h2⟩
          clear h hs ih hR hN hcc hcz hcv
          go_wp2_with (fail)
          generalize (wr.setCell ⟨G, k * 5, none⟩ (.int .i64 (-77))) = w1 at *
          refine ⟨⟨k + 1, vs, by omega, by go_num, hB2, by omega, by rw [hvl]; omega, hR2, hN2⟩, ?_⟩
          simp [intOf]; omega
      · have hd : decide ((k : Int) < (ts.length : Int) + 3) = false := by simp; omega
        have hke : k = ts.length + 3 := by omega
        subst hke
        rw [Nat.min_eq_right (by omega)] at hvl hN
        have hfin : HSl wr (fun b => G ≤ b) (.slice (some ⟨G, 0, none⟩) ts.length (ts.length + 3)) ts := by
          refine .mk G ts vs h4 hGl (Nat.le_refl _) (fun i hi => ⟨?_, (h i hi).elim fun _ q => q.elim fun _ q => q.2.2.2⟩) (fun i h1 h2 => ?_) (fun i hi => (hN i hi).keep (Nat.le_refl _) fun q _ h2 => ⟨rfl, by omega⟩)
          · have := hR.range (i := i) (by omega) (hrow_len ..)
            rwa [show hrow ts vs (ts.length + 3) i = srow (gs ts i) (gvs vs i) by unfold hrow; rw [if_pos (by omega), if_pos hi]] at this
          · have := hR.range (i := i) h2 (hrow_len ..)
            rwa [show hrow ts vs (ts.length + 3) i = hmk by unfold hrow; rw [if_pos (by omega), if_neg (by omega)]] at this
        clear h hs ih hR hN
        go_wp2_with (fail)
        go_ret
        exact ⟨_, rfl, by rw [hG.out]; exact hB, by rw [hG.out]; exact hfin⟩
end Go.Proofs.YtdfpmgjholdknaaDoor
