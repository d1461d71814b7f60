import Derived.Test.YtmmlkfkpblokiaaGreatDoorQeKti
import Derived.Test.YtmmlkfkpblokiaaGreatDoorProg
import Derived.WalkKit
import Derived.WalkSpells
import Derived.WalkLawsBesides
import Derived.Lib.QuietBelow
import Derived.Laws.BitsAllLaws
import Derived.BigQuiet
import Derived.WalkMore
import Derived.Deep.MidRow
import Derived.Test.YtmmlkfkpblokiaaGreatDoorQeOpen
import Derived.Test.YtmmlkfkpblokiaaGreatDoorQeWq
namespace Go.Proofs.YtmmlkfkpblokiaaGreatDoor
set_option maxRecDepth 100000
open Go Go.RowKit Go.Sort
attribute [local go_sem] setCell_drewN alloc_drewN
def vlg : List VT → Int → Int
 | [], l => l
 | .mk _ d ps :: xs, l => if 0 ≤ l then vlg xs (vlg ps (l - 1 - ((d.length / 64 : Nat) : Int))) else l
def vlf (X : VT) (l : Int) : Int := vlg X.parts (l - 1 - ((X.dat.length / 64 : Nat) : Int))
theorem vlg_cons (x : VT) (xs : List VT) (l : Int) : vlg (x :: xs) l = if 0 ≤ l then vlg xs (vlf x l) else l := by
 cases x
 rw [vlg]
 rfl
theorem vlg_neg {ps : List VT} {l : Int} (h : l < 0) : vlg ps l = l := by
 cases ps with
 | nil => rw [vlg]
 | cons x xs => rw [vlg_cons, if_neg (by omega)]
theorem nm_dat {X : VT} (h : NmT X) : X.dat.length ≤ 140737488351232 ∧ ∀ p ∈ X.parts, NmT p := by
 cases h with
 | mk n d ps hn hd h => exact ⟨hd, h⟩
theorem vlg_bd : ∀ (ps : List VT) (l : Int), (∀ p ∈ ps, NmT p) → -4398046511104 ≤ l → l ≤ 10000 → -4398046511104 ≤ vlg ps l ∧ vlg ps l ≤ 10000
 | [], l, _, h1, h2 => by rw [vlg]; exact ⟨h1, h2⟩
 | .mk n d ps :: xs, l, h, h1, h2 => by
  have hx := nm_dat (h (.mk n d ps) (by simp))
  have hd : d.length ≤ 140737488351232 := hx.1
  rw [vlg]
  by_cases h0 : 0 ≤ l
  ·rw [if_pos h0]
   obtain ⟨b1, b2⟩ := vlg_bd ps (l - 1 - ((d.length / 64 : Nat) : Int)) hx.2 (by omega) (by omega)
   exact vlg_bd xs _ (fun p hp => h p (by simp [hp])) b1 b2
  ·rw [if_neg h0]
   exact ⟨h1, h2⟩
set_option maxRecDepth 100000 in
set_option maxHeartbeats 8000000 in
theorem a_valueLeft {W : World} {S : Nat → Prop} {x : VR} {X : VT} (h : VtM W S x X) : ∀ (w : World) (l : Int), Below W.heap.size W w → 0 ≤ l → l ≤ 10000 → Calls Tryz.prog 24 #[.agg (vrv x), .int .i64 l] w fun e w' => e = .returned (.int .i64 (vlf X l)) ∧ Below w.heap.size w w' := by
 induction h with
 | mk x bs xs ps hn hdl hbl hd hdc hds hpl hxl hpc hpm hps hP hs ih =>
  intro w l hw h0 h1
  have hnp : ∀ p ∈ ps, NmT p := fun p hp => by
   obtain ⟨i, hi, e⟩ := List.getElem_of_mem hp
   have := (hs i hi).nm
   rw [gvt, List.getD_eq_getElem?_getD, List.getElem?_eq_getElem hi] at this
   rw [← e]
   exact this
  have hpsb : ∀ i, i < ps.length → (∀ b off, x.pa = some ⟨b, off, none⟩ → b < W.heap.size) := fun i hi b off e => (hps _ ((lv_pos (by omega)).trans e)).2
  clear hs hps hds hd
  obtain ⟨xn, xda, xdl, xdc, xpa, xpl, xpc⟩ := x
  simp only at hn hdl hdc hpl hpc hP hpsb
  subst hpl
  unfold vrv vrw
  obtain ⟨R, hR⟩ : ∃ R, vlf (.mk xn bs ps) l = R := ⟨_, rfl⟩
  rw [hR]
  have eq64 : ((xdl / 64 : Nat) : Int) = (xdl : Int) / 64 := by omega
  have eR : R = vlg (ps.drop 0) (l - 1 - (xdl : Int) / 64) := by rw [← eq64, ← hR, hdl]; rfl
  have bd0 : -4398046511104 ≤ l - 1 - (xdl : Int) / 64 ∧ l - 1 - (xdl : Int) / 64 ≤ 10000 := by omega
  have q1 : IntKind.wrap .i64 (l - 1) = l - 1 := by rw [IntKind.wrap_i64]; omega
  have q2 : IntKind.wrap .i64 (l - 1 - (xdl : Int) / 64) = l - 1 - (xdl : Int) / 64 := by rw [IntKind.wrap_i64]; omega
  have q3 : IntKind.wrap .i64 ((xdl : Int) / 64) = (xdl : Int) / 64 := by rw [IntKind.wrap_i64]; omega
  clear hdl eq64 hbl
  have hb : Below w.heap.size w (w.alloc (.cells #[.int .u64 (xn : Int), .slice xda xdl xdc, .slice xpa ps.length xpc] 27)) := (Below.refl _ _).alloc (Nat.le_refl _) _
  have r0 := hp1_0 w (.cells #[.int .u64 (xn : Int), .slice xda xdl xdc, .slice xpa ps.length xpc] 27)
  have HP := hide hP
  have HI := hide ih
  replace eR := hide eR
  clear hR hP ih
  go_enter Tryz.func24, Tryz.ntmps24
  go_upto_region 1 with (fail)
  generalize w.alloc (.cells #[.int .u64 (xn : Int), .slice xda xdl xdc, .slice xpa ps.length xpc] 27) = w0 at *
  have c1 := cell_of_row _ _ 1 _ _ _ r0
  go_wp2_with (fail)
  clear c1
  go_loopw [1, 5] (fun lv i wr => ∃ (k : Nat) (l2 : Int), k ≤ ps.length ∧ i = .int .i64 k ∧ lv = .int .i64 l2 ∧ R = vlg (ps.drop k) l2 ∧ -4398046511104 ≤ l2 ∧ l2 ≤ 10000 ∧ Below w0.heap.size w0 wr) (fun _ i _ => ps.length - (intOf i).toNat)
  case atStart => exact ⟨0, _, by omega, rfl, rfl, eR.out, bd0.1, bd0.2, Below.refl _ _⟩
  case round =>
   clear eR bd0 q1 q2 q3
   obtain ⟨k, l2, hk, rfl, rfl, eR, b1, b2, hby⟩ := hrel
   have rr := keep hby r0
   have c2 := cell_of_row _ _ 2 _ _ _ rr
   have hbw := Below.after hb hby
   by_cases hlt : k < ps.length
   ·have hd2 : decide ((k : Int) < (ps.length : Int)) = true := by simp; omega
    by_cases hl0 : 0 ≤ l2
    ·have hd3 : decide (l2 ≥ 0) = true := by simpa using hl0
     obtain ⟨b, off, hxe, hra⟩ := HP.out k hlt
     subst hxe
     have hbl : b < W.heap.size := hpsb k hlt _ _ rfl
     have hpw := rangeS_keep2 hra (hw.trans (hbw.mono hw.size)) hbl
     rw [vdrop ps k hlt, vlg_cons, if_pos hl0] at eR
     have hbd := vlg_bd [gvt ps k] l2 (fun p hp => by
      have : p = gvt ps k := by simpa using hp
      subst this
      exact hnp _ (by rw [gvt, List.getD_eq_getElem?_getD, List.getElem?_eq_getElem hlt]; exact List.getElem_mem hlt)) b1 b2
     rw [vlg_cons, if_pos hl0, vlg] at hbd
     have cI := HI.out k hlt wr l2 (hw.trans (hbw.mono hw.size)) hl0 b2
     generalize vlf (gvt ps k) l2 = L3 at *
     generalize gx xs k = z at *
     obtain ⟨zn, zda, zdl, zdc, zpa, zpl, zpc⟩ := z
     unfold vrv vrw at *
     replace cI := hide cI
     replace eR := hide eR
     clear hra HP HI
     go_wp2_with (first | (refine wpList_load_mid rfl 27 _ rfl b (off + k * 3) rfl _ _ hpw Tryz.underlying27 rfl infoV ?_) | fail)
     refine cI.out.mono ?_
     rintro e_ w3 ⟨rfl, hb3⟩
     replace hby := Below.after hby hb3
     clear cI hb3 hpw c2 rr
     go_wp2_with (fail)
     refine ⟨⟨k + 1, L3, by omega, by go_num, rfl, eR.out, hbd.1, hbd.2, hby⟩, ?_⟩
     simp [intOf]; omega
    ·have hd3 : decide (l2 ≥ 0) = false := by simpa using hl0
     rw [vlg_neg (by omega)] at eR
     replace eR := hide eR
     clear HP HI
     go_wp2_with (fail)
     go_ret
     exact ⟨by rw [eR.out]; rfl, hbw⟩
   ·have hd2 : decide ((k : Int) < (ps.length : Int)) = false := by simp; omega
    rw [List.drop_of_length_le (by omega), vlg] at eR
    replace eR := hide eR
    clear HP HI
    go_wp2_with (fail)
    go_ret
    exact ⟨by rw [eR.out]; rfl, hbw⟩
def bgV (X : VT) : Bool := decide (vlf X 10000 < 0)
set_option maxRecDepth 100000 in
set_option maxHeartbeats 8000000 in
theorem a_bigValue {S : Nat → Prop} {x : VR} {X : VT} (w : World) (h : VtM w S x X) : Calls Tryz.prog 8 #[.agg (vrv x)] w fun e w' => e = .returned (.bool (bgV X)) ∧ Below w.heap.size w w' := by
 have cV := fun V hV => a_valueLeft h V 10000 hV (by decide) (by decide)
 clear h
 unfold bgV
 generalize vlf X 10000 = L at *
 obtain ⟨zn, zda, zdl, zdc, zpa, zpl, zpc⟩ := x
 unfold vrv vrw at *
 have hb : Below w.heap.size w (w.alloc (.cells #[.int .u64 (zn : Int), .slice zda zdl zdc, .slice zpa zpl zpc] 27)) := (Below.refl _ _).alloc (Nat.le_refl _) _
 have r0 := hp1_0 w (.cells #[.int .u64 (zn : Int), .slice zda zdl zdc, .slice zpa zpl zpc] 27)
 have cV1 := cV _ hb
 clear cV
 go_enter Tryz.func8, Tryz.ntmps8
 go_upto_region 1 with (fail)
 generalize w.alloc (.cells #[.int .u64 (zn : Int), .slice zda zdl zdc, .slice zpa zpl zpc] 27) = w0 at *
 go_wp2_with (first | (refine wpList_load_want rfl 27 _ rfl w.heap.size rfl 27 #[.int .u64 (zn : Int), .slice zda zdl zdc, .slice zpa zpl zpc] (0, 0) _ r0 Tryz.underlying27 rfl infoV ?_) | fail)
 refine cV1.mono ?_
 rintro e_ w1 ⟨rfl, hb1⟩
 replace hb := Below.after hb hb1
 go_wp2_with (fail)
 go_ret
 exact ⟨rfl, hb⟩
end Go.Proofs.YtmmlkfkpblokiaaGreatDoor
namespace Go.Proofs.YtmmlkfkpblokiaaGreatDoor
set_option maxRecDepth 100000
open Go Go.RowKit Go.Sort
attribute [local go_sem] setCell_drewN alloc_drewN
theorem there_of_row {W : World} {g : Nat} {cs : Array Value} {t : TypeId} (h : W.heap[g]? = some (.cells cs t (0, 0))) {o n : Nat} (hn : o + n ≤ cs.size) : W.there g o n := by
 intro j hj
 constructor
 ·rw [cell_of_row _ _ _ _ _ _ h]
  simp; omega
 ·simp [World.frozen?, h]
def hzr : List Value := [.int .i64 0, .int .i64 0, .int .u64 0, .int .u64 0, .slice none 0 0]
def hmk : List Value := [.int .i64 (-77), .int .i64 0, .int .u64 0, .int .u64 0, .slice none 0 0]
inductive HSl (W : World) (S : Nat → Prop) : Value → List Slt → Prop
 | mk (G : Nat) (ts : List Slt) (us : List Value) (hl : ts.length ≤ 10000) (hG : G < W.heap.size) (hS : S G)
  (h : ∀ i, i < ts.length → W.rangeAt G (i * 5) (srow (gs ts i) (gvs us i)) ∧ Sok (gs ts i))
  (hm : ∀ i, ts.length ≤ i → i < ts.length + 3 → W.rangeAt G (i * 5) hmk)
  (hs : ∀ i, i < ts.length → HSl W S (gvs us i) (gs ts i).sub) : HSl W S (.slice (some ⟨G, 0, none⟩) ts.length (ts.length + 3)) ts
theorem HSl.slo {W : World} {S : Nat → Prop} {v : Value} {ts : List Slt} (h : HSl W S v ts) : Slo W v ts := by
 induction h with
 | mk G ts us hl hG hS h hm hs ih =>
  refine .mk (some ⟨G, 0, none⟩) _ ts us (by omega) (by omega) (fun e => by cases e) (fun i hi => ⟨G, 0, rfl, hG, ?_, (h i hi).2⟩) ih
  rw [Nat.zero_add]
  exact (h i hi).1
theorem HSl.keep {W V : World} {S T : Nat → Prop} {v : Value} {ts : List Slt} (h : HSl W S v ts) (hs : W.heap.size ≤ V.heap.size) (hb : ∀ b, b < W.heap.size → S b → V.heap[b]? = W.heap[b]? ∧ T b) : HSl V T v ts := by
 induction h with
 | mk G ts us hl hG hS h hm _ ih =>
  exact .mk G ts us hl (by omega) (hb G hG hS).2 (fun i hi => ⟨range_same (h i hi).1 (hb G hG hS).1, (h i hi).2⟩) (fun i h1 h2 => range_same (hm i h1 h2) (hb G hG hS).1) ih
theorem HSl.form {W : World} {S : Nat → Prop} {v : Value} {ts : List Slt} (h : HSl W S v ts) : ∃ G, v = .slice (some ⟨G, 0, none⟩) ts.length (ts.length + 3) ∧ S G := by
 cases h with
 | mk G _ us hl hG hS h hm hs => exact ⟨G, rfl, hS⟩
theorem slL_len : ∀ (ts : List Slt) (l : Int), 0 ≤ slL ts l → (ts.length : Int) ≤ l
 | [], l, h => by rw [slL] at h; simpa using h
 | t :: ts, l, h => by
  rw [slL_cons] at h
  split at h
  ·have h1 := slL_len ts _ h
   have h2 := (slL_le t.sub (l - 1)).1
   rw [List.length_cons]; omega
  ·omega
theorem slL_at : ∀ (ts : List Slt) (l : Int) (i : Nat), 0 ≤ slL ts l → i < ts.length → ∃ l', l' ≤ l ∧ 0 ≤ slL (gs ts i).sub l'
 | [], l, i, _, hi => by simp at hi
 | t :: ts, l, i, h, hi => by
  rw [slL_cons] at h
  split at h
  ·have h2 := (slL_le t.sub (l - 1)).1
   cases i with
   | zero => exact ⟨l - 1, by omega, by have := (slL_le ts (slL t.sub (l - 1))).1; show 0 ≤ slL t.sub (l - 1); omega⟩
   | succ i =>
    obtain ⟨l', h3, h4⟩ := slL_at ts _ i h (by simpa using hi)
    exact ⟨l', by omega, h4⟩
  ·omega
def hrow (ts : List Slt) (us : List Value) (k i : Nat) : List Value := if i < k then (if i < ts.length then srow (gs ts i) (gvs us i) else hmk) else hzr
def Hrw (W : World) (G : Nat) (ts : List Slt) (us : List Value) (k : Nat) : Prop := ∃ cs, W.heap[G]? = some (.cells cs 88 (0, 0)) ∧ cs.size = (ts.length + 3) * 5 ∧ ∀ i c, i < ts.length + 3 → c < 5 → cs[i * 5 + c]? = (hrow ts us k i)[c]?
theorem Hrw.keep {W V : World} {G : Nat} {ts : List Slt} {us : List Value} {k : Nat} (h : Hrw W G ts us k) (hb : V.heap[G]? = W.heap[G]?) : Hrw V G ts us k := by
 obtain ⟨cs, h1, h2⟩ := h
 exact ⟨cs, hb.trans h1, h2⟩
theorem Hrw.range {W : World} {G : Nat} {ts : List Slt} {us : List Value} {k i : Nat} (h : Hrw W G ts us k) (hi : i < ts.length + 3) (hl : (hrow ts us k i).length = 5) : W.rangeAt G (i * 5) (hrow ts us k i) := by
 obtain ⟨cs, h1, h2, h3⟩ := h
 intro j v hv
 have hj := (List.getElem?_eq_some_iff.1 hv).1
 rw [cell_of_row _ _ _ _ _ _ h1, h3 i j hi (by omega)]
 exact hv
theorem hrow_len (ts : List Slt) (us : List Value) (k i : Nat) : (hrow ts us k i).length = 5 := by
 unfold hrow
 split
 ·split <;> rfl
 ·rfl
theorem infoSl : ∃ i, Tryz.prog.info? 88 = some i ∧ i.zero = some (.agg #[.int .i64 0, .int .i64 0, .int .u64 0, .int .u64 0, .slice none 0 0]) ∧ i.size = 5 ∧ i.bytes = 56 := ⟨_, rfl, rfl, rfl, rfl⟩
theorem make_sl (n : Nat) (hn : n ≤ 10003) (w : World) : ∃ cs, (Instr.makeSlice 22 (.int .i64 (n : Int)) (.int .i64 (n : Int))).run Tryz.prog w = .ok (.slice (some ⟨w.heap.size, 0, none⟩) n n) (w.alloc (.cells cs 88)) ∧ cs.size = n * 5 ∧ ∀ i c, i < n → c < 5 → cs[i * 5 + c]? = hzr[c]? := by
 obtain ⟨i0, hi, hz0, hz1, hz2⟩ := infoSl
 have h := run_make (P := Tryz.prog) w 22 88 i0 _ Tryz.underlying22 hi hz0 .i64 .i64 (n : Int) (n : Int) (by omega) (by omega) (by rw [hz2]; omega) (by omega)
 rw [hz1, Int.toNat_natCast] at h
 refine ⟨_, h, by simp [madeCells], fun i c h1 h2 => ?_⟩
 have h3 : i * 5 + c < n * 5 := by omega
 have h4 : (i * 5 + c) % 5 = c := by omega
 rcases (by omega : c = 0 ∨ c = 1 ∨ c = 2 ∨ c = 3 ∨ c = 4) with rfl | rfl | rfl | rfl | rfl
 ·rw [Nat.add_zero] at h3 h4 ⊢
  simp [madeCells, Value.cells, hzr, h3, h4]
 all_goals simp [madeCells, Value.cells, hzr, h3, h4]
theorem Hrw.mark {W : World} {G : Nat} {ts : List Slt} {us : List Value} {k : Nat} (h : Hrw W G ts us k) (hk : ts.length ≤ k) (hk3 : k < ts.length + 3) : Hrw (W.setCell ⟨G, k * 5, none⟩ (.int .i64 (-77))) G ts us (k + 1) := by
 obtain ⟨cs, h1, h2, h3⟩ := h
 refine ⟨_, heap_setCell_same W G (k * 5) cs _ _ h1, by simp [h2], fun i c hi hc => ?_⟩
 rw [Array.getElem?_setIfInBounds]
 by_cases e : k * 5 = i * 5 + c
 ·have e1 : i = k := by omega
  have e2 : c = 0 := by omega
  subst e1 e2
  rw [if_pos e, if_pos (by omega)]
  unfold hrow
  rw [if_pos (by omega), if_neg (by omega)]; rfl
 ·rw [if_neg e, h3 i c hi hc]
  by_cases e1 : i = k
  ·subst e1
   have c0 : c ≠ 0 := by omega
   unfold hrow
   rw [if_neg (by omega), if_pos (by omega), if_neg (by omega)]
   rcases (by omega : c = 1 ∨ c = 2 ∨ c = 3 ∨ c = 4) with rfl | rfl | rfl | rfl <;> rfl
  ·unfold hrow
   by_cases e2 : i < k
   ·rw [if_pos e2, if_pos (show i < k + 1 by omega)]
   ·rw [if_neg e2, if_neg (show ¬ i < k + 1 by omega)]
theorem Hrw.slot {W V : World} {G : Nat} {ts : List Slt} {us : List Value} {k : Nat} {u v : Value} (h : Hrw W G ts us k) (hk : k < ts.length) (hu : us.length = k) (hV : V.heap[G]? = ((W.setCell ⟨G, k * 5, none⟩ (.int .i64 (-77))).setCells G (k * 5) (srow (gs ts k) u)).heap[G]?) : Hrw (V.setCell ⟨G, k * 5 + 4, none⟩ v) G ts (us ++ [v]) (k + 1) := by
 obtain ⟨cs, h1, h2, h3⟩ := h
 have s1 := heap_setCell_same W G (k * 5) cs _ (.int .i64 (-77)) h1
 have s2 : ((W.setCell ⟨G, k * 5, none⟩ (.int .i64 (-77))).setCells G (k * 5) (srow (gs ts k) u)).heap[G]? = _ :=
  heap_setCell_same _ G (k * 5 + 1 + 1 + 1 + 1) _ _ u (heap_setCell_same _ G (k * 5 + 1 + 1 + 1) _ _ (.int .u64 ((gs ts k).most : Int)) (heap_setCell_same _ G (k * 5 + 1 + 1) _ _ (.int .u64 ((gs ts k).least : Int)) (heap_setCell_same _ G (k * 5 + 1) _ _ (.int .i64 (gs ts k).kind) (heap_setCell_same _ G (k * 5) _ _ (.int .i64 (gs ts k).no) s1))))
 refine ⟨_, heap_setCell_same V G (k * 5 + 4) _ _ v (hV.trans s2), by simp [h2], fun i c hi hc => ?_⟩
 simp only [Array.getElem?_setIfInBounds, Array.size_setIfInBounds]
 by_cases e1 : i = k
 ·subst e1
  have e3 : hrow ts (us ++ [v]) (i + 1) i = srow (gs ts i) v := by
   unfold hrow; rw [if_pos (by omega), if_pos hk, gvs_top _ _ _ hu]
  rw [e3]
  have hb : i * 5 + c < cs.size := by omega
  rcases (by omega : c = 0 ∨ c = 1 ∨ c = 2 ∨ c = 3 ∨ c = 4) with rfl | rfl | rfl | rfl | rfl
  ·rw [if_neg (by omega), if_neg (by omega), if_neg (by omega), if_neg (by omega), if_neg (by omega), if_pos (by omega), if_pos (by omega)]; rfl
  ·rw [if_neg (by omega), if_neg (by omega), if_neg (by omega), if_neg (by omega), if_pos (by omega), if_pos (by omega)]; rfl
  ·rw [if_neg (by omega), if_neg (by omega), if_neg (by omega), if_pos (by omega), if_pos (by omega)]; rfl
  ·rw [if_neg (by omega), if_neg (by omega), if_pos (by omega), if_pos (by omega)]; rfl
  ·rw [if_pos (by omega), if_pos (by omega)]; rfl
 ·rw [if_neg (by omega), if_neg (by omega), if_neg (by omega), if_neg (by omega), if_neg (by omega), if_neg (by omega), if_neg (by omega), h3 i c hi hc]
  unfold hrow
  by_cases e2 : i < k
  ·rw [if_pos e2, if_pos (by omega), if_pos (by omega), if_pos (by omega), gvs_low _ _ _ (by omega)]
  ·rw [if_neg e2, if_neg (by omega)]
theorem heap_setCells_else {g k : Nat} (hk : k ≠ g) : ∀ (vs : List Value) (o : Nat) (w : World), (w.setCells g o vs).heap[k]? = w.heap[k]?
 | [], _, _ => rfl
 | v :: r, o, w => (heap_setCells_else hk r (o + 1) _).trans (heap_setCell_other w _ k v hk)
theorem below_setCells {n g : Nat} {w0 : World} (hg : n ≤ g) : ∀ (vs : List Value) (o : Nat) (w : World), Below n w0 w → Below n w0 (w.setCells g o vs)
 | [], _, _, h => h
 | v :: r, o, _, h => below_setCells hg r (o + 1) _ (h.setCell hg v)
theorem size_setCells {g : Nat} : ∀ (vs : List Value) (o : Nat) (w : World), (w.setCells g o vs).heap.size = w.heap.size
 | [], _, _ => rfl
 | v :: r, o, w => by
  show ((w.setCell ⟨g, o, none⟩ v).setCells g (o + 1) r).heap.size = _
  rw [size_setCells r (o + 1)]; simp
theorem setCells_row {g : Nat} {t : TypeId} : ∀ (vs : List Value) (o : Nat) (w : World) (cs : Array Value), w.heap[g]? = some (.cells cs t (0, 0)) → ∃ cs', (w.setCells g o vs).heap[g]? = some (.cells cs' t (0, 0)) ∧ cs'.size = cs.size
 | [], _, _, cs, h => ⟨cs, h, rfl⟩
 | v :: r, o, w, cs, h => by
  obtain ⟨cs', h1, h2⟩ := setCells_row r (o + 1) _ _ (heap_setCell_same w g o cs t v h)
  exact ⟨cs', h1, by rw [h2]; simp⟩
end Go.Proofs.YtmmlkfkpblokiaaGreatDoor
namespace Go.Proofs.YtmmlkfkpblokiaaGreatDoor
set_option maxRecDepth 100000
open Go Go.RowKit Go.Sort
attribute [local go_sem] setCell_drewN alloc_drewN
/-! A value in memory of its own, with marks behind each list. -/
def pzr : List Value := [.int .u64 0, .slice none 0 0, .slice none 0 0]
def pmk : List Value := [.int .u64 4711, .slice none 0 0, .slice none 0 0]
theorem Bys.of_pre8 {W : World} {g : Nat} {l r : List Int} {t : TypeId} (hg : W.heap[g]? = some (.cells (irow .u8 (l ++ r)) t (0, 0))) (hl : l.length ≤ 9223372036854775807) (hz : ∀ z ∈ l, 0 ≤ z ∧ z < 256) (cap : Nat) : Bys W (.slice (some ⟨g, 0, none⟩) l.length cap) l := by
 refine ⟨_, cap, rfl, hl, fun j hj => ⟨g, 0, rfl, lt_of_row hg, ?_⟩, hz⟩
 rw [Nat.zero_add]
 have := irow_cell hg (j := j) (by simp; omega)
 rwa [show (l ++ r).getD j 0 = l.getD j 0 by simp [List.getD_eq_getElem?_getD, List.getElem?_append_left hj]] at this
theorem head_bysV {W : World} {g n : Nat} {e : List B} {m : List Int} {t : TypeId} (hg : W.heap[g]? = some (.cells (irow .u8 (bl e ++ m)) t (0, 0))) (hn : e.length = n) (hl : n ≤ 140737488355000) (cap : Nat) : BysB W (.slice (some ⟨g, 0, none⟩) n cap) e := by
 have h := Bys.of_pre8 hg (by rw [bl_len]; omega) (bl_bnd e) cap
 rw [bl_len, hn] at h
 exact ⟨h, by omega, fun a l c h h2 => by cases h; cases h2⟩
inductive HVt (W : World) (S : Nat → Prop) : VR → VT → Prop
 | mk (n D G : Nat) (d : List B) (xs : List VR) (ps : List VT) (hn : n < 18446744073709551616) (hd : d.length ≤ 640063) (hp : ps.length ≤ 10000) (hD : D < W.heap.size) (hSD : S D) (hG : G < W.heap.size) (hSG : S G)
  (hc : W.heap[D]? = some (.cells (irow .u8 (bl d ++ [7, 8, 9])) 5 (0, 0))) (hx : xs.length = ps.length)
  (h : ∀ i, i < ps.length → W.rangeAt G (i * 3) (vrv (gx xs i)).toList)
  (hm : ∀ i, ps.length ≤ i → i < ps.length + 3 → W.rangeAt G (i * 3) pmk)
  (hs : ∀ i, i < ps.length → HVt W S (gx xs i) (gvt ps i)) : HVt W S ⟨n, some ⟨D, 0, none⟩, d.length, d.length + 3, some ⟨G, 0, none⟩, ps.length, ps.length + 3⟩ (.mk n d ps)
theorem HVt.vtm {W : World} {S : Nat → Prop} {x : VR} {X : VT} (h : HVt W S x X) : VtM W S x X := by
 induction h with
 | mk n D G d xs ps hn hd hp hD hSD hG hSG hc hx h hm hs ih =>
  refine .mk ⟨n, some ⟨D, 0, none⟩, d.length, d.length + 3, some ⟨G, 0, none⟩, ps.length, ps.length + 3⟩ d xs ps hn rfl (by omega) (head_bysV hc rfl (by omega) _) (by show d.length ≤ d.length + 3; omega) (fun a e => ?_) rfl hx (by show ps.length ≤ ps.length + 3; omega) (by omega) (fun a e => ?_) (fun i hi => ⟨G, 0, rfl, ?_⟩) ih
  ·obtain rfl := Option.some.inj (lv_some e)
   exact ⟨hSD, hD⟩
  ·obtain rfl := Option.some.inj (lv_some e)
   exact ⟨hSG, hG⟩
  ·rw [Nat.zero_add]
   exact h i hi
theorem HVt.keep {W V : World} {S T : Nat → Prop} {x : VR} {X : VT} (h : HVt W S x X) (hs : W.heap.size ≤ V.heap.size) (hb : ∀ b, b < W.heap.size → S b → V.heap[b]? = W.heap[b]? ∧ T b) : HVt V T x X := by
 induction h with
 | mk n D G d xs ps hn hd hp hD hSD hG hSG hc hx h hm _ ih =>
  exact .mk n D G d xs ps hn hd hp (by omega) (hb D hD hSD).2 (by omega) (hb G hG hSG).2 ((hb D hD hSD).1.trans hc) hx (fun i hi => range_same (h i hi) (hb G hG hSG).1) (fun i h1 h2 => range_same (hm i h1 h2) (hb G hG hSG).1) ih
theorem vlg_le : ∀ (ps : List VT) (l : Int), vlg ps l ≤ l
 | [], l => by rw [vlg]; omega
 | .mk n d ps :: xs, l => by
  rw [vlg]
  by_cases h : 0 ≤ l
  ·rw [if_pos h]
   have h1 := vlg_le ps (l - 1 - ((d.length / 64 : Nat) : Int))
   have h2 := vlg_le xs (vlg ps (l - 1 - ((d.length / 64 : Nat) : Int)))
   omega
  ·rw [if_neg h]; omega
theorem vlf_le (X : VT) (l : Int) : vlf X l ≤ l - 1 - ((X.dat.length / 64 : Nat) : Int) := vlg_le _ _
theorem vlg_at : ∀ (ps : List VT) (l : Int) (i : Nat), 0 ≤ vlg ps l → i < ps.length → ∃ l', l' ≤ l ∧ 0 ≤ vlf (gvt ps i) l'
 | [], l, i, _, hi => by simp at hi
 | x :: xs, l, i, h, hi => by
  rw [vlg_cons] at h
  by_cases h0 : 0 ≤ l
  ·rw [if_pos h0] at h
   cases i with
   | zero => exact ⟨l, by omega, by have := vlg_le xs (vlf x l); show 0 ≤ vlf x l; omega⟩
   | succ i =>
    obtain ⟨l', h3, h4⟩ := vlg_at xs _ i h (by simpa using hi)
    have := vlf_le x l
    exact ⟨l', by omega, h4⟩
  ·rw [if_neg h0] at h; omega
theorem vlg_len : ∀ (ps : List VT) (l : Int), 0 ≤ vlg ps l → (ps.length : Int) ≤ l
 | [], l, h => by rw [vlg] at h; simpa using h
 | x :: xs, l, h => by
  rw [vlg_cons] at h
  by_cases h0 : 0 ≤ l
  ·rw [if_pos h0] at h
   have h1 := vlg_len xs _ h
   have h2 := vlf_le x l
   rw [List.length_cons]; omega
  ·rw [if_neg h0] at h; omega
theorem vlf_sz {X : VT} {l : Int} (h : 0 ≤ vlf X l) (hl : l ≤ 10000) : X.dat.length ≤ 640063 ∧ X.parts.length ≤ 10000 ∧ ∀ i, i < X.parts.length → ∃ l', l' ≤ 10000 ∧ 0 ≤ vlf (gvt X.parts i) l' := by
 have h1 := vlf_le X l
 have h2 := vlg_len X.parts _ h
 refine ⟨by omega, by omega, fun i hi => ?_⟩
 obtain ⟨l', h3, h4⟩ := vlg_at X.parts _ i h hi
 exact ⟨l', by omega, h4⟩
/-! The parts under way: rows that are laid, marks, rows that are still nothing. -/
def pvw (n : Nat) (xs : List VR) (k i : Nat) : List Value := if i < k then (if i < n then (vrv (gx xs i)).toList else pmk) else pzr
theorem pvw_len (n : Nat) (xs : List VR) (k i : Nat) : (pvw n xs k i).length = 3 := by
 unfold pvw
 split
 ·split <;> rfl
 ·rfl
def Pvw (W : World) (G n : Nat) (xs : List VR) (k : Nat) : Prop := ∃ cs, W.heap[G]? = some (.cells cs 27 (0, 0)) ∧ cs.size = (n + 3) * 3 ∧ ∀ i c, i < n + 3 → c < 3 → cs[i * 3 + c]? = (pvw n xs k i)[c]?
theorem Pvw.keep {W V : World} {G n : Nat} {xs : List VR} {k : Nat} (h : Pvw W G n xs k) (hb : V.heap[G]? = W.heap[G]?) : Pvw V G n xs k := by
 obtain ⟨cs, h1, h2⟩ := h
 exact ⟨cs, hb.trans h1, h2⟩
theorem Pvw.range {W : World} {G n : Nat} {xs : List VR} {k i : Nat} (h : Pvw W G n xs k) (hi : i < n + 3) : W.rangeAt G (i * 3) (pvw n xs k i) := by
 obtain ⟨cs, h1, h2, h3⟩ := h
 have hl := pvw_len n xs k i
 intro j v hv
 have hj := (List.getElem?_eq_some_iff.1 hv).1
 rw [cell_of_row _ _ _ _ _ _ h1, h3 i j hi (by omega)]
 exact hv
theorem infoV4 : ∃ i, Tryz.prog.info? 27 = some i ∧ i.zero = some (.agg #[.int .u64 0, .slice none 0 0, .slice none 0 0]) ∧ i.size = 3 ∧ i.bytes = 56 := ⟨_, rfl, rfl, rfl, rfl⟩
theorem make_vs (n : Nat) (hn : n ≤ 10003) (w : World) : ∃ cs, (Instr.makeSlice 25 (.int .i64 (n : Int)) (.int .i64 (n : Int))).run Tryz.prog w = .ok (.slice (some ⟨w.heap.size, 0, none⟩) n n) (w.alloc (.cells cs 27)) ∧ cs.size = n * 3 ∧ ∀ i c, i < n → c < 3 → cs[i * 3 + c]? = pzr[c]? := by
 obtain ⟨i0, hi, hz0, hz1, hz2⟩ := infoV4
 have h := run_make (P := Tryz.prog) w 25 27 i0 _ Tryz.underlying25 hi hz0 .i64 .i64 (n : Int) (n : Int) (by omega) (by omega) (by rw [hz2]; omega) (by omega)
 rw [hz1, Int.toNat_natCast] at h
 refine ⟨_, h, by simp [madeCells], fun i c h1 h2 => ?_⟩
 have h3 : i * 3 + c < n * 3 := by omega
 have h4 : (i * 3 + c) % 3 = c := by omega
 rcases (by omega : c = 0 ∨ c = 1 ∨ c = 2) with rfl | rfl | rfl
 ·rw [Nat.add_zero] at h3 h4 ⊢
  simp [madeCells, Value.cells, pzr, h3, h4]
 all_goals simp [madeCells, Value.cells, pzr, h3, h4]
theorem Pvw.mark {W : World} {G n : Nat} {xs : List VR} {k : Nat} (h : Pvw W G n xs k) (hk : n ≤ k) (hk3 : k < n + 3) : Pvw (W.setCell ⟨G, k * 3, none⟩ (.int .u64 4711)) G n xs (k + 1) := by
 obtain ⟨cs, h1, h2, h3⟩ := h
 refine ⟨_, heap_setCell_same W G (k * 3) cs _ _ h1, by simp [h2], fun i c hi hc => ?_⟩
 rw [Array.getElem?_setIfInBounds]
 by_cases e : k * 3 = i * 3 + c
 ·have e1 : i = k := by omega
  have e2 : c = 0 := by omega
  subst e1 e2
  rw [if_pos e, if_pos (by omega)]
  unfold pvw
  rw [if_pos (by omega), if_neg (by omega)]; rfl
 ·rw [if_neg e, h3 i c hi hc]
  by_cases e1 : i = k
  ·subst e1
   have c0 : c ≠ 0 := by omega
   unfold pvw
   rw [if_neg (by omega), if_pos (by omega), if_neg (by omega)]
   rcases (by omega : c = 1 ∨ c = 2) with rfl | rfl <;> rfl
  ·unfold pvw
   by_cases e2 : i < k
   ·rw [if_pos e2, if_pos (show i < k + 1 by omega)]
   ·rw [if_neg e2, if_neg (show ¬ i < k + 1 by omega)]
theorem Pvw.part {W V : World} {G n : Nat} {xs : List VR} {k : Nat} {y : VR} (h : Pvw W G n xs k) (hk : k < n) (hu : xs.length = k) (hV : V.heap[G]? = (W.setCell ⟨G, k * 3, none⟩ (.int .u64 4711)).heap[G]?) : Pvw (V.setCells G (k * 3) (vrv y).toList) G n (xs ++ [y]) (k + 1) := by
 obtain ⟨cs, h1, h2, h3⟩ := h
 have s1 := heap_setCell_same W G (k * 3) cs _ (.int .u64 4711) h1
 have s2 : (V.setCells G (k * 3) (vrv y).toList).heap[G]? = _ :=
  heap_setCell_same _ G (k * 3 + 1 + 1) _ _ (.slice y.pa y.pl y.pc) (heap_setCell_same _ G (k * 3 + 1) _ _ (.slice y.da y.dl y.dc) (heap_setCell_same V G (k * 3) _ _ (.int .u64 (y.num : Int)) (hV.trans s1)))
 refine ⟨_, s2, by simp [h2], fun i c hi hc => ?_⟩
 simp only [Array.getElem?_setIfInBounds, Array.size_setIfInBounds]
 by_cases e1 : i = k
 ·subst e1
  have e3 : pvw n (xs ++ [y]) (i + 1) i = (vrv y).toList := by
   unfold pvw
   rw [if_pos (by omega), if_pos hk, ← hu, gx_hi]
  rw [e3]
  have hb : i * 3 + c < cs.size := by omega
  rcases (by omega : c = 0 ∨ c = 1 ∨ c = 2) with rfl | rfl | rfl
  ·rw [if_neg (by omega), if_neg (by omega), if_pos (by omega), if_pos (by omega)]; rfl
  ·rw [if_neg (by omega), if_pos (by omega), if_pos (by omega)]; rfl
  ·rw [if_pos (by omega), if_pos (by omega)]; rfl
 ·rw [if_neg (by omega), if_neg (by omega), if_neg (by omega), if_neg (by omega), h3 i c hi hc]
  unfold pvw
  by_cases e2 : i < k
  ·rw [if_pos e2, if_pos (by omega), if_pos (by omega), if_pos (by omega), gx_lo (by omega)]
  ·rw [if_neg e2, if_neg (by omega)]
end Go.Proofs.YtmmlkfkpblokiaaGreatDoor
namespace Go.Proofs.YtmmlkfkpblokiaaGreatDoor
set_option maxRecDepth 100000
open Go Go.RowKit Go.Sort
attribute [local go_sem] setCell_drewN alloc_drewN
theorem zr_tail (n : Nat) : (zr (n + 3)).drop n = [0, 0, 0] := by
 unfold zr
 simp [List.drop_replicate]
theorem irow_mark (bs : List B) : (((irow .u8 (bl bs ++ [0, 0, 0])).setIfInBounds bs.length (.int .u8 7)).setIfInBounds (bs.length + 1) (.int .u8 8)).setIfInBounds (bs.length + 2) (.int .u8 9) = irow .u8 (bl bs ++ [7, 8, 9]) := by
 have hl := bl_len bs
 unfold irow
 simp [hl]
set_option maxRecDepth 100000 in
set_option maxHeartbeats 16000000 in
theorem l_handV {W : World} {S : Nat → Prop} {x : VR} {X : VT} (h : VtM W S x X) : ∀ (l : Int), l ≤ 10000 → 0 ≤ vlf X l → ∀ (w : World), Below W.heap.size W w → Calls Tryz.prog 10 #[.agg (vrv x)] w fun e w' => ∃ y, e = .returned (.agg (vrv y)) ∧ Below w.heap.size w w' ∧ HVt w' (fun b => w.heap.size ≤ b) y X := by
 induction h with
 | mk x bs xs ps hn hdl hbl hd hdc hds hpl hxl hpc hpm hps hP hs ih =>
  intro l hl1 hl2 w hw
  obtain ⟨h1, h2, h3⟩ := vlf_sz hl2 hl1
  replace h1 : bs.length ≤ 640063 := h1
  replace h2 : ps.length ≤ 10000 := h2
  replace h3 : ∀ i, i < ps.length → ∃ l', l' ≤ 10000 ∧ 0 ≤ vlf (gvt ps i) l' := h3
  clear hl1 hl2 hpm
  obtain ⟨n, da, dl, dc, pa, pl, pc⟩ := x
  replace hdl : dl = bs.length := hdl
  replace hpl : pl = ps.length := hpl
  replace hn : n < 18446744073709551616 := hn
  replace hd : BysB W (.slice da dl dc) bs := hd
  replace hP : ∀ i, i < ps.length → ∃ b off, pa = some ⟨b, off, none⟩ ∧ W.rangeAt b (off + i * 3) (vrv (gx xs i)).toList := hP
  replace hps : InS W S (lv pl pa) := hps
  subst hpl
  have hdw := hd.keep hw
  unfold vrv vrw
  have hdlh := hide hdl
  clear hdl
  have hb0 : Below w.heap.size w (((w.alloc (.cells #[.int .u64 (n : Int), .slice da dl dc, .slice pa ps.length pc] 27)).alloc (.cells #[.int .u64 0, .slice none 0 0, .slice none 0 0] 27)).alloc (.cells #[.int .u64 0, .slice none 0 0, .slice none 0 0] 27)) := (((Below.refl _ _).alloc (Nat.le_refl _) _).alloc (by simp) _).alloc (by simp; omega) _
  have r0 := hp3_0 w (.cells #[.int .u64 (n : Int), .slice da dl dc, .slice pa ps.length pc] 27) (.cells #[.int .u64 0, .slice none 0 0, .slice none 0 0] 27) (.cells #[.int .u64 0, .slice none 0 0, .slice none 0 0] 27)
  have r1 := hp3_1 w (.cells #[.int .u64 (n : Int), .slice da dl dc, .slice pa ps.length pc] 27) (.cells #[.int .u64 0, .slice none 0 0, .slice none 0 0] 27) (.cells #[.int .u64 0, .slice none 0 0, .slice none 0 0] 27)
  have r2 := hp3_2 w (.cells #[.int .u64 (n : Int), .slice da dl dc, .slice pa ps.length pc] 27) (.cells #[.int .u64 0, .slice none 0 0, .slice none 0 0] 27) (.cells #[.int .u64 0, .slice none 0 0, .slice none 0 0] 27)
  have hsz : (((w.alloc (.cells #[.int .u64 (n : Int), .slice da dl dc, .slice pa ps.length pc] 27)).alloc (.cells #[.int .u64 0, .slice none 0 0, .slice none 0 0] 27)).alloc (.cells #[.int .u64 0, .slice none 0 0, .slice none 0 0] 27)).heap.size = w.heap.size + 3 := by simp
  have hone : (#[Value.int .u64 (n : Int), .slice none 0 0, .slice none 0 0] : Array Value).all (·.oneCell') = true := by simp [Value.oneCell']
  have q0 := (setRow_other _ (w.heap.size + 1 + 1) w.heap.size #[.int .u64 (n : Int), .slice none 0 0, .slice none 0 0] (by omega)).trans r0
  have q1 := (setRow_other _ (w.heap.size + 1 + 1) (w.heap.size + 1) #[.int .u64 (n : Int), .slice none 0 0, .slice none 0 0] (by omega)).trans r1
  have q2 := setRow_heap _ (w.heap.size + 1 + 1) _ #[.int .u64 (n : Int), .slice none 0 0, .slice none 0 0] _ _ r2
  have hb1 := below_setRow (g := w.heap.size + 1 + 1) hb0 (by omega) #[.int .u64 (n : Int), .slice none 0 0, .slice none 0 0]
  have hsz1 : ((((w.alloc (.cells #[.int .u64 (n : Int), .slice da dl dc, .slice pa ps.length pc] 27)).alloc (.cells #[.int .u64 0, .slice none 0 0, .slice none 0 0] 27)).alloc (.cells #[.int .u64 0, .slice none 0 0, .slice none 0 0] 27)).setRow (w.heap.size + 1 + 1) #[.int .u64 (n : Int), .slice none 0 0, .slice none 0 0]).heap.size = w.heap.size + 3 := by simp
  have A1 := hide hb1
  have A2 := hide hsz1
  have A3 := hide q1
  have A4 := hide q0
  have A5 := hide q2
  clear hb1 hsz1 q0 q1 q2 hb0 r0 r1 hsz
  go_enter Tryz.func10, Tryz.ntmps10
  go_upto_region 2 with (first | (refine wpList_store_row rfl 27 _ _ rfl (w.heap.size + 1 + 1) #[.int .u64 (n : Int), .slice none 0 0, .slice none 0 0] rfl rfl 27 _ r2 infoV rfl hone ?_) | fail)
  generalize (((w.alloc (.cells #[.int .u64 (n : Int), .slice da dl dc, .slice pa ps.length pc] 27)).alloc (.cells #[.int .u64 0, .slice none 0 0, .slice none 0 0] 27)).alloc (.cells #[.int .u64 0, .slice none 0 0, .slice none 0 0] 27)).setRow (w.heap.size + 1 + 1) #[.int .u64 (n : Int), .slice none 0 0, .slice none 0 0] = w1 at *
  clear r2
  have hb1 := A1.out
  have hsz1 := A2.out
  have q0 := A4.out
  have q1 := A3.out
  have q2 := A5.out
  clear A1 A2 A3 A4 A5
  -- the data: so many bytes and three more
  have hdb : dl ≤ 640063 := by rw [hdlh.out]; exact h1
  have c1 : w1.cell? ⟨w.heap.size, 1, none⟩ = some (.slice da dl dc) := by rw [cell_of_row _ _ _ _ _ _ q0]; rfl
  have hmk : (Instr.makeSlice 24 (.int .i64 ((dl : Int) + 3)) (.int .i64 ((dl : Int) + 3))).run Tryz.prog w1 = .ok (.slice (some ⟨w1.heap.size, 0, none⟩) (dl + 3) (dl + 3)) (w1.alloc (.cells (irow .u8 (zr (dl + 3))) 5)) := make_lc (dl + 3) (dl + 3) (Nat.le_refl _) (by have := hdlh.out; omega) w1
  rw [hsz1] at hmk
  have rD := hp1_0 w1 (.cells (irow .u8 (zr (dl + 3))) 5)
  rw [hsz1] at rD
  have hba : Below w1.heap.size w1 (w1.alloc (.cells (irow .u8 (zr (dl + 3))) 5)) := (Below.refl _ _).alloc (Nat.le_refl _) _
  have hbA := Below.after hb1 hba
  have hdv := (hdw.keep hbA).1
  have hzl : (zr (dl + 3)).length = dl + 3 := zr_len _
  have hcp : (Builtin.copy_ #[24, 24] 3 #[.slice (some ⟨w.heap.size + 3, 0, none⟩) (dl + 3) (dl + 3), .slice da dl dc]).run Tryz.prog (w1.alloc (.cells (irow .u8 (zr (dl + 3))) 5)) = .ok (goInt (dl : Int)) ((w1.alloc (.cells (irow .u8 (zr (dl + 3))) 5)).setRow (w.heap.size + 3) (irow .u8 (bl bs ++ [0, 0, 0]))) := by
   have e := copy_bys (o := 0) (dLen := dl + 3) (dCap := dl + 3) rD hdv (by rw [bl_len, hdlh.out]; omega) (by rw [bl_len, hzl, hdlh.out]; omega)
   rw [List.take_zero, List.nil_append, Nat.zero_add, bl_len, ← hdlh.out, show (zr (dl + 3)).drop dl = [0, 0, 0] from zr_tail dl] at e
   exact e
  have rD2 := setRow_heap _ (w.heap.size + 3) _ (irow .u8 (bl bs ++ [0, 0, 0])) _ _ rD
  have q0a := (setRow_other _ (w.heap.size + 3) w.heap.size (irow .u8 (bl bs ++ [0, 0, 0])) (by omega)).trans (keep hba q0)
  have q1a := (setRow_other _ (w.heap.size + 3) (w.heap.size + 1) (irow .u8 (bl bs ++ [0, 0, 0])) (by omega)).trans (keep hba q1)
  have q2a := (setRow_other _ (w.heap.size + 3) (w.heap.size + 1 + 1) (irow .u8 (bl bs ++ [0, 0, 0])) (by omega)).trans (keep hba q2)
  have hb2 := below_setRow (g := w.heap.size + 3) hbA (by omega) (irow .u8 (bl bs ++ [0, 0, 0]))
  have hsz2 : ((w1.alloc (.cells (irow .u8 (zr (dl + 3))) 5)).setRow (w.heap.size + 3) (irow .u8 (bl bs ++ [0, 0, 0]))).heap.size = w.heap.size + 4 := by simp; omega
  replace rD2 := hide rD2
  replace q0a := hide q0a
  replace q1a := hide q1a
  replace q2a := hide q2a
  replace hb2 := hide hb2
  replace hsz2 := hide hsz2
  have c1a : (w1.alloc (.cells (irow .u8 (zr (dl + 3))) 5)).cell? ⟨w.heap.size, 1, none⟩ = some (.slice da dl dc) := by rw [cell_of_row _ _ _ _ _ _ (keep hba q0)]; rfl
  clear hdv hba hbA rD hb1 hsz1 q0 q1 q2 hzl hdw
  go_upto_region 3 with (fail)
  generalize w1.alloc (.cells (irow .u8 (zr (dl + 3))) 5) = w1a at *
  go_upto_region 4 with (fail)
  generalize w1a.setRow (w.heap.size + 3) (irow .u8 (bl bs ++ [0, 0, 0])) = w2 at *
  clear hcp hmk c1 c1a
  -- the three marks
  have rD3 : (((w2.setCell ⟨w.heap.size + 3, dl, none⟩ (.int .u8 7)).setCell ⟨w.heap.size + 3, dl + 1, none⟩ (.int .u8 8)).setCell ⟨w.heap.size + 3, dl + 2, none⟩ (.int .u8 9)).heap[w.heap.size + 3]? = some (.cells (irow .u8 (bl bs ++ [7, 8, 9])) 5 (0, 0)) := by
   have e := heap_setCell_same _ (w.heap.size + 3) (dl + 2) _ _ (.int .u8 9) (heap_setCell_same _ (w.heap.size + 3) (dl + 1) _ _ (.int .u8 8) (heap_setCell_same w2 (w.heap.size + 3) dl _ _ (.int .u8 7) rD2.out))
   rw [hdlh.out, irow_mark] at e
   rw [hdlh.out]
   exact e
  have q0b : (((w2.setCell ⟨w.heap.size + 3, dl, none⟩ (.int .u8 7)).setCell ⟨w.heap.size + 3, dl + 1, none⟩ (.int .u8 8)).setCell ⟨w.heap.size + 3, dl + 2, none⟩ (.int .u8 9)).heap[w.heap.size]? = _ := (heap_setCell_other _ _ (w.heap.size) _ (by show w.heap.size ≠ w.heap.size + 3; omega)).trans ((heap_setCell_other _ _ (w.heap.size) _ (by show w.heap.size ≠ w.heap.size + 3; omega)).trans ((heap_setCell_other _ _ (w.heap.size) _ (by show w.heap.size ≠ w.heap.size + 3; omega)).trans q0a.out))
  have q1b : (((w2.setCell ⟨w.heap.size + 3, dl, none⟩ (.int .u8 7)).setCell ⟨w.heap.size + 3, dl + 1, none⟩ (.int .u8 8)).setCell ⟨w.heap.size + 3, dl + 2, none⟩ (.int .u8 9)).heap[w.heap.size + 1]? = _ := (heap_setCell_other _ _ (w.heap.size + 1) _ (by show w.heap.size + 1 ≠ w.heap.size + 3; omega)).trans ((heap_setCell_other _ _ (w.heap.size + 1) _ (by show w.heap.size + 1 ≠ w.heap.size + 3; omega)).trans ((heap_setCell_other _ _ (w.heap.size + 1) _ (by show w.heap.size + 1 ≠ w.heap.size + 3; omega)).trans q1a.out))
  have q2b : (((w2.setCell ⟨w.heap.size + 3, dl, none⟩ (.int .u8 7)).setCell ⟨w.heap.size + 3, dl + 1, none⟩ (.int .u8 8)).setCell ⟨w.heap.size + 3, dl + 2, none⟩ (.int .u8 9)).heap[w.heap.size + 1 + 1]? = _ := (heap_setCell_other _ _ (w.heap.size + 1 + 1) _ (by show w.heap.size + 1 + 1 ≠ w.heap.size + 3; omega)).trans ((heap_setCell_other _ _ (w.heap.size + 1 + 1) _ (by show w.heap.size + 1 + 1 ≠ w.heap.size + 3; omega)).trans ((heap_setCell_other _ _ (w.heap.size + 1 + 1) _ (by show w.heap.size + 1 + 1 ≠ w.heap.size + 3; omega)).trans q2a.out))
  have hb3 : Below w.heap.size w (((w2.setCell ⟨w.heap.size + 3, dl, none⟩ (.int .u8 7)).setCell ⟨w.heap.size + 3, dl + 1, none⟩ (.int .u8 8)).setCell ⟨w.heap.size + 3, dl + 2, none⟩ (.int .u8 9)) := ((hb2.out.setCell (by show w.heap.size ≤ w.heap.size + 3; omega) _).setCell (by show w.heap.size ≤ w.heap.size + 3; omega) _).setCell (by show w.heap.size ≤ w.heap.size + 3; omega) _
  have hsz3 : (((w2.setCell ⟨w.heap.size + 3, dl, none⟩ (.int .u8 7)).setCell ⟨w.heap.size + 3, dl + 1, none⟩ (.int .u8 8)).setCell ⟨w.heap.size + 3, dl + 2, none⟩ (.int .u8 9)).heap.size = w.heap.size + 4 := by simp [hsz2.out]
  replace rD3 := hide rD3
  replace q0b := hide q0b
  replace q1b := hide q1b
  replace q2b := hide q2b
  replace hb3 := hide hb3
  replace hsz3 := hide hsz3
  have lz : (bl bs ++ [0, 0, 0]).length = dl + 3 := by rw [List.length_append, bl_len, hdlh.out]; rfl
  have c1 : w2.cell? ⟨w.heap.size, 1, none⟩ = some (.slice da dl dc) := by rw [cell_of_row _ _ _ _ _ _ q0a.out]; rfl
  have f0 : ∃ v, w2.cell? ⟨w.heap.size + 3, dl, none⟩ = some v := ⟨_, irow_cell rD2.out (by omega)⟩
  have f1 : ∃ v, w2.cell? ⟨w.heap.size + 3, dl + 1, none⟩ = some v := ⟨_, irow_cell rD2.out (by omega)⟩
  have f2 : ∃ v, w2.cell? ⟨w.heap.size + 3, dl + 2, none⟩ = some v := ⟨_, irow_cell rD2.out (by omega)⟩
  obtain ⟨v0, f0⟩ := f0
  obtain ⟨v1, f1⟩ := f1
  obtain ⟨v2, f2⟩ := f2
  have z0 : w2.frozen? ⟨w.heap.size + 3, dl, none⟩ = false := by simp [World.frozen?, rD2.out]
  have z1 : w2.frozen? ⟨w.heap.size + 3, dl + 1, none⟩ = false := by simp [World.frozen?, rD2.out]
  have z2 : w2.frozen? ⟨w.heap.size + 3, dl + 2, none⟩ = false := by simp [World.frozen?, rD2.out]
  have p0 : (dl : Int) < (dl : Int) + 3 := by omega
  have p1 : (dl : Int) + 1 < (dl : Int) + 3 := by omega
  have p2 : (dl : Int) + 2 < (dl : Int) + 3 := by omega
  go_wp2_with (fail)
  refine wp_loop_rounds 4 ?_
  rw [rounds_succ]
  go_wp2_with (fail)
  rw [rounds_succ]
  go_wp2_with (fail)
  rw [rounds_succ]
  go_wp2_with (fail)
  rw [rounds_succ]
  go_upto_region 8 with (fail)
  generalize ((w2.setCell ⟨w.heap.size + 3, dl, none⟩ (.int .u8 7)).setCell ⟨w.heap.size + 3, dl + 1, none⟩ (.int .u8 8)).setCell ⟨w.heap.size + 3, dl + 2, none⟩ (.int .u8 9) = w3 at *
  -- the data's place
  have q0 := q0b.out
  have q1 := q1b.out
  have q2 := q2b.out
  have hb := hb3.out
  have hsz := hsz3.out
  have rD := rD3.out
  clear q0b q1b q2b hb3 hsz3 rD3 rD2 q0a q1a q2a hb2 hsz2 f0 f1 f2 z0 z1 z2 c1 p0 p1 p2 lz
  have k1 : w3.cell? ⟨w.heap.size, 1, none⟩ = some (.slice da dl dc) := by rw [cell_of_row _ _ _ _ _ _ q0]; rfl
  have k2 : w3.cell? ⟨w.heap.size + 1 + 1, 1, none⟩ = some (.slice none 0 0) := by rw [cell_of_row _ _ _ _ _ _ q2]; rfl
  have k3 : w3.frozen? ⟨w.heap.size + 1 + 1, 1, none⟩ = false := by simp [World.frozen?, q2]
  have q0' : (w3.setCell ⟨w.heap.size + 1 + 1, 1, none⟩ (.slice (some ⟨w.heap.size + 3, 0, none⟩) dl (dl + 3))).heap[w.heap.size]? = _ := (heap_setCell_other _ _ (w.heap.size) _ (by show w.heap.size ≠ w.heap.size + 1 + 1; omega)).trans q0
  have q1' : (w3.setCell ⟨w.heap.size + 1 + 1, 1, none⟩ (.slice (some ⟨w.heap.size + 3, 0, none⟩) dl (dl + 3))).heap[w.heap.size + 1]? = _ := (heap_setCell_other _ _ (w.heap.size + 1) _ (by show w.heap.size + 1 ≠ w.heap.size + 1 + 1; omega)).trans q1
  have rD' : (w3.setCell ⟨w.heap.size + 1 + 1, 1, none⟩ (.slice (some ⟨w.heap.size + 3, 0, none⟩) dl (dl + 3))).heap[w.heap.size + 3]? = _ := (heap_setCell_other _ _ (w.heap.size + 3) _ (by show w.heap.size + 3 ≠ w.heap.size + 1 + 1; omega)).trans rD
  have q2' : (w3.setCell ⟨w.heap.size + 1 + 1, 1, none⟩ (.slice (some ⟨w.heap.size + 3, 0, none⟩) dl (dl + 3))).heap[w.heap.size + 1 + 1]? = some (.cells #[.int .u64 (n : Int), .slice (some ⟨w.heap.size + 3, 0, none⟩) dl (dl + 3), .slice none 0 0] 27 (0, 0)) := heap_setCell_same w3 (w.heap.size + 1 + 1) 1 _ _ (.slice (some ⟨w.heap.size + 3, 0, none⟩) dl (dl + 3)) q2
  have hb' : Below w.heap.size w (w3.setCell ⟨w.heap.size + 1 + 1, 1, none⟩ (.slice (some ⟨w.heap.size + 3, 0, none⟩) dl (dl + 3))) := hb.setCell (by show w.heap.size ≤ w.heap.size + 1 + 1; omega) _
  have hsz' : (w3.setCell ⟨w.heap.size + 1 + 1, 1, none⟩ (.slice (some ⟨w.heap.size + 3, 0, none⟩) dl (dl + 3))).heap.size = w.heap.size + 4 := by simp [hsz]
  replace q0' := hide q0'
  replace q1' := hide q1'
  replace q2' := hide q2'
  replace rD' := hide rD'
  replace hb' := hide hb'
  replace hsz' := hide hsz'
  clear q0 q1 q2 rD hb hsz
  go_upto_region 9 with (fail)
  generalize w3.setCell ⟨w.heap.size + 1 + 1, 1, none⟩ (.slice (some ⟨w.heap.size + 3, 0, none⟩) dl (dl + 3)) = w4 at *
  clear k1 k2 k3 w3
  have q0 := q0'.out
  have q1 := q1'.out
  have q2 := q2'.out
  have hb := hb'.out
  have hsz := hsz'.out
  have rD := rD'.out
  clear q0' q1' q2' hb' hsz' rD'
  -- the parts' place
  have k1 : w4.cell? ⟨w.heap.size, 2, none⟩ = some (.slice pa ps.length pc) := by rw [cell_of_row _ _ _ _ _ _ q0]; rfl
  obtain ⟨cs, hmk, hcs1, hcs2⟩ := make_vs (ps.length + 3) (by omega) w4
  have hmk' : (Instr.makeSlice 25 (.int .i64 ((ps.length : Int) + 3)) (.int .i64 ((ps.length : Int) + 3))).run Tryz.prog w4 = .ok (.slice (some ⟨w.heap.size + 4, 0, none⟩) (ps.length + 3) (ps.length + 3)) (w4.alloc (.cells cs 27)) := by
   rw [hsz] at hmk
   exact hmk
  have hR0 : Pvw (w4.alloc (.cells cs 27)) (w.heap.size + 4) ps.length [] 0 := ⟨cs, by rw [← hsz]; exact hp1_0 w4 _, hcs1, fun i c h1 h2 => by unfold pvw; rw [if_neg (by omega)]; exact hcs2 i c h1 h2⟩
  have hba : Below w4.heap.size w4 (w4.alloc (.cells cs 27)) := (Below.refl _ _).alloc (Nat.le_refl _) _
  have hsa : (w4.alloc (.cells cs 27)).heap.size = w.heap.size + 5 := by rw [size_alloc1, hsz]
  replace hR0 := hide hR0
  replace hba := hide hba
  replace hsa := hide hsa
  replace hb := hide hb
  replace hsz := hide hsz
  replace q0 := hide q0
  replace q1 := hide q1
  replace q2 := hide q2
  replace rD := hide rD
  clear hmk hcs1 hcs2
  go_upto_region 10 with (fail)
  generalize w4.alloc (.cells cs 27) = w5 at *
  clear k1 hmk'
  go_wp2_with (fail)
  go_loopw [7] (fun i wr => ∃ (k : Nat) (vs : List VR), k ≤ ps.length + 3 ∧ i = .int .i64 k ∧ Below w4.heap.size w4 wr ∧ w.heap.size + 4 < wr.heap.size ∧ vs.length = min k ps.length ∧ Pvw wr (w.heap.size + 4) ps.length vs k ∧ ∀ i, i < min k ps.length → HVt wr (fun b => w.heap.size + 4 < b) (gx vs i) (gvt ps i)) (fun i _ => ps.length + 3 - (intOf i).toNat)
  case atStart => exact ⟨0, [], by omega, rfl, hba.out, by rw [hsa.out]; omega, by simp, hR0.out, fun i hi => by omega⟩
  case round =>
   clear hR0 hba hsa w5
   obtain ⟨k, vs, hk, rfl, hB, hGl, hvl, hR, hN⟩ := hrel
   have hwn := Below.after hb.out hB
   have hww := Below.after hw hwn
   have k1 : wr.cell? ⟨w.heap.size, 2, none⟩ = some (.slice pa ps.length pc) := by rw [cell_of_row _ _ _ _ _ _ (keep hB q0.out)]; rfl
   by_cases hlt : k < ps.length + 3
   ·have hd' : ((k : Int) < (ps.length : Int) + 3) := by omega
    obtain ⟨cc, hcc, hcz, hcv⟩ := id hR
    have fz : wr.frozen? ⟨w.heap.size + 4, k * 3, none⟩ = false := by simp [World.frozen?, hcc]
    have fc : wr.cell? ⟨w.heap.size + 4, k * 3, none⟩ = some (.int .u64 0) := by
     rw [cell_of_row _ _ _ _ _ _ hcc]
     have := hcv k 0 hlt (by omega)
     rw [Nat.add_zero] at this
     rw [this]; unfold pvw; rw [if_neg (by omega)]; rfl
    have hB2 : Below w4.heap.size w4 (wr.setCell ⟨w.heap.size + 4, k * 3, none⟩ (.int .u64 4711)) := hB.setCell (by show w4.heap.size ≤ w.heap.size + 4; rw [hsz.out]; omega) _
    have hsz2 : (wr.setCell ⟨w.heap.size + 4, k * 3, none⟩ (.int .u64 4711)).heap.size = wr.heap.size := by simp
    by_cases hkn : k < ps.length
    ·have hd2 : (k : Int) < (ps.length : Int) := by omega
     obtain ⟨b, off, hpa, hra⟩ := hP k hkn
     obtain ⟨l', hl3, hl4⟩ := h3 k hkn
     have hbl : b < W.heap.size := (hps ⟨b, off, none⟩ ((lv_pos (by omega)).trans hpa)).2
     have hih := ih k hkn l' hl3 hl4
     have hWw := hw.size
     have hra2 := rangeS_keep2 hra hww hbl
     have hww2 : Below W.heap.size W (wr.setCell ⟨w.heap.size + 4, k * 3, none⟩ (.int .u64 4711)) := Below.after hw (Below.after hb.out hB2)
     have cH := hih _ hww2
     rw [Nat.min_eq_left (by omega)] at hvl hN
     subst hpa
     have hbG : ¬ w.heap.size + 4 = b := by omega
     have hbG2 : ¬ b = w.heap.size + 4 := by omega
     have hRp := fun (V : World) (y : VR) hV => hR.part (V := V) (y := y) hkn hvl hV
     have hxg : Hid (gvt ps k = gvt ps k) := hide rfl
     generalize gx xs k = x at *
     obtain ⟨xn, xda, xdl, xdc, xpa, xpl, xpc⟩ := x
     unfold vrv vrw at hra2 cH
     have b0 := hra2 0 _ rfl
     have b1 := hra2 1 _ rfl
     have b2 := hra2 2 _ rfl
     rw [Nat.add_zero] at b0
     have r6 := heap_setCell_same wr (w.heap.size + 4) (k * 3) cc _ (.int .u64 4711) hcc
     replace hN := hide hN
     replace hRp := hide hRp
     replace r6 := hide r6
     replace hB2 := hide hB2
     replace hsz2 := hide hsz2
     replace cH := hide cH
     clear hra hra2 hww2 hih hR hcv hcc hB
     go_wp2_with (fail)
     refine cH.out.mono ?_
     rintro e_ w6 ⟨y, rfl, hb6, hy⟩
     clear cH b0 b1 b2 fz fc k1
     obtain ⟨yn, yda, ydl, ydc, ypa, ypl, ypc⟩ := y
     have hGs : w.heap.size + 4 < (wr.setCell ⟨w.heap.size + 4, k * 3, none⟩ (.int .u64 4711)).heap.size := by rw [hsz2.out]; exact hGl
     have r7 := keep hb6 r6.out
     have hs6 := hb6.size
     rw [hsz2.out] at hs6
     have hz4 := hsz.out
     have hRn : Pvw (((w6.setCell ⟨w.heap.size + 4, k * 3, none⟩ (.int .u64 (yn : Int))).setCell ⟨w.heap.size + 4, k * 3 + 1, none⟩ (.slice yda ydl ydc)).setCell ⟨w.heap.size + 4, k * 3 + 2, none⟩ (.slice ypa ypl ypc)) (w.heap.size + 4) ps.length (vs ++ [⟨yn, yda, ydl, ydc, ypa, ypl, ypc⟩]) (k + 1) := hRp.out w6 ⟨yn, yda, ydl, ydc, ypa, ypl, ypc⟩ (hb6.block _ hGs)
     have hzz : ∀ o, w6.frozen? ⟨w.heap.size + 4, o, none⟩ = false := fun o => by simp [World.frozen?, r7]
     have z0 := hzz (k * 3)
     have z1 := hzz (k * 3 + 1)
     have z2 := hzz (k * 3 + 2)
     have hcl : ∀ o, o < (ps.length + 3) * 3 → ∃ v, w6.cell? ⟨w.heap.size + 4, o, none⟩ = some v := fun o ho => by
      rw [cell_of_row _ _ _ _ _ _ r7]
      exact ⟨_, Array.getElem?_eq_getElem (by rw [Array.size_setIfInBounds]; omega)⟩
     obtain ⟨v0, f0⟩ := hcl (k * 3) (by omega)
     obtain ⟨v1, f1⟩ := hcl (k * 3 + 1) (by omega)
     obtain ⟨v2, f2⟩ := hcl (k * 3 + 2) (by omega)
     have hB7 : Below w4.heap.size w4 (((w6.setCell ⟨w.heap.size + 4, k * 3, none⟩ (.int .u64 (yn : Int))).setCell ⟨w.heap.size + 4, k * 3 + 1, none⟩ (.slice yda ydl ydc)).setCell ⟨w.heap.size + 4, k * 3 + 2, none⟩ (.slice ypa ypl ypc)) := below_setCells (g := w.heap.size + 4) (by omega) [.int .u64 (yn : Int), .slice yda ydl ydc, .slice ypa ypl ypc] (k * 3) w6 (Below.after hB2.out hb6)
     have hs7 : (((w6.setCell ⟨w.heap.size + 4, k * 3, none⟩ (.int .u64 (yn : Int))).setCell ⟨w.heap.size + 4, k * 3 + 1, none⟩ (.slice yda ydl ydc)).setCell ⟨w.heap.size + 4, k * 3 + 2, none⟩ (.slice ypa ypl ypc)).heap.size = w6.heap.size := size_setCells (g := w.heap.size + 4) [.int .u64 (yn : Int), .slice yda ydl ydc, .slice ypa ypl ypc] (k * 3) w6
     have hel : ∀ q, q ≠ w.heap.size + 4 → (((w6.setCell ⟨w.heap.size + 4, k * 3, none⟩ (.int .u64 (yn : Int))).setCell ⟨w.heap.size + 4, k * 3 + 1, none⟩ (.slice yda ydl ydc)).setCell ⟨w.heap.size + 4, k * 3 + 2, none⟩ (.slice ypa ypl ypc)).heap[q]? = w6.heap[q]? := fun q hq => heap_setCells_else (g := w.heap.size + 4) hq [.int .u64 (yn : Int), .slice yda ydl ydc, .slice ypa ypl ypc] (k * 3) w6
     have hN7 : ∀ i, i < min (k + 1) ps.length → HVt (((w6.setCell ⟨w.heap.size + 4, k * 3, none⟩ (.int .u64 (yn : Int))).setCell ⟨w.heap.size + 4, k * 3 + 1, none⟩ (.slice yda ydl ydc)).setCell ⟨w.heap.size + 4, k * 3 + 2, none⟩ (.slice ypa ypl ypc)) (fun b => w.heap.size + 4 < b) (gx (vs ++ [⟨yn, yda, ydl, ydc, ypa, ypl, ypc⟩]) i) (gvt ps i) := fun i hi => by
      rcases Nat.lt_or_ge i k with h6 | h6
      ·rw [gx_lo (by omega)]
       exact (hN.out i h6).keep (by omega) fun q h7 h8 => ⟨(hel q (by omega)).trans ((hb6.block q (by rw [hsz2.out]; exact h7)).trans (heap_setCell_other _ _ q _ (by show q ≠ w.heap.size + 4; omega))), h8⟩
      ·have h7 : i = k := by omega
       subst h7
       rw [show gx (vs ++ [⟨yn, yda, ydl, ydc, ypa, ypl, ypc⟩]) i = ⟨yn, yda, ydl, ydc, ypa, ypl, ypc⟩ from by rw [← hvl]; exact gx_hi]
       exact hy.keep (by omega) fun q h7 h8 => ⟨hel q (by rw [hsz2.out] at h8; omega), by rw [hsz2.out] at h8; omega⟩
     have A1 := hide hRn
     have A2 := hide hB7
     have A3 := hide hs7
     have A4 := hide hN7
     clear hRn hB7 hs7 hN7 hel hy hb6 r7 r6 hN hRp hB2 hsz2 hcl hzz hz4
     dsimp only
     go_wp2_with (fail)
     refine ⟨⟨k + 1, vs ++ [⟨yn, yda, ydl, ydc, ypa, ypl, ypc⟩], by omega, by push_cast; rfl, A2.out, by rw [A3.out]; omega, by simp; omega, A1.out, A4.out⟩, ?_⟩
     simp only [intOf]; omega
    ·have hd2 : (ps.length : Int) ≤ (k : Int) := by omega
     have hR2 := hR.mark (by omega) hlt
     have hN2 : ∀ i, i < min (k + 1) ps.length → HVt (wr.setCell ⟨w.heap.size + 4, k * 3, none⟩ (.int .u64 4711)) (fun b => w.heap.size + 4 < b) (gx vs i) (gvt ps i) := fun i hi => (hN i (by omega)).keep (by omega) fun q _ h2 => ⟨heap_setCell_other _ _ q _ (by show q ≠ w.heap.size + 4; omega), h2⟩
     clear hs ih hR hN hcc hcz hcv
     have A1 := hide hR2
     have A2 := hide hB2
     have A3 := hide hsz2
     have A4 := hide hN2
     clear hR2 hB2 hsz2 hN2 hB
     go_wp2_with (fail)
     refine ⟨⟨k + 1, vs, by omega, by push_cast; rfl, A2.out, by rw [A3.out]; omega, by rw [hvl]; omega, A1.out, A4.out⟩, ?_⟩
     simp only [intOf]; omega
   ·have hke : k = ps.length + 3 := by omega
    subst hke
    have hd' : ((ps.length : Int) + 3) ≤ ((ps.length + 3 : Nat) : Int) := by omega
    rw [Nat.min_eq_right (by omega)] at hvl hN
    have hz4 := hsz.out
    have rD1 := keep hB rD.out
    have r2 := keep hB q2.out
    have r1 := keep hB q1.out
    have k2 : wr.cell? ⟨w.heap.size + 1 + 1, 2, none⟩ = some (.slice none 0 0) := by rw [cell_of_row _ _ _ _ _ _ r2]; rfl
    have k3 : wr.frozen? ⟨w.heap.size + 1 + 1, 2, none⟩ = false := by simp [World.frozen?, r2]
    have s2 : (wr.setCell ⟨w.heap.size + 1 + 1, 2, none⟩ (.slice (some ⟨w.heap.size + 4, 0, none⟩) ps.length (ps.length + 3))).heap[w.heap.size + 1 + 1]? = some (.cells #[.int .u64 (n : Int), .slice (some ⟨w.heap.size + 3, 0, none⟩) dl (dl + 3), .slice (some ⟨w.heap.size + 4, 0, none⟩) ps.length (ps.length + 3)] 27 (0, 0)) := heap_setCell_same wr (w.heap.size + 1 + 1) 2 _ _ (.slice (some ⟨w.heap.size + 4, 0, none⟩) ps.length (ps.length + 3)) r2
    have s1 : (wr.setCell ⟨w.heap.size + 1 + 1, 2, none⟩ (.slice (some ⟨w.heap.size + 4, 0, none⟩) ps.length (ps.length + 3))).heap[w.heap.size + 1]? = _ := (heap_setCell_other _ _ (w.heap.size + 1) _ (by show w.heap.size + 1 ≠ w.heap.size + 1 + 1; omega)).trans r1
    have hb8 : Below w.heap.size w (wr.setCell ⟨w.heap.size + 1 + 1, 2, none⟩ (.slice (some ⟨w.heap.size + 4, 0, none⟩) ps.length (ps.length + 3))) := hwn.setCell (by show w.heap.size ≤ w.heap.size + 1 + 1; omega) _
    have hz8 : (wr.setCell ⟨w.heap.size + 1 + 1, 2, none⟩ (.slice (some ⟨w.heap.size + 4, 0, none⟩) ps.length (ps.length + 3))).heap.size = wr.heap.size := by simp
    have t1 := setRow_heap (wr.setCell ⟨w.heap.size + 1 + 1, 2, none⟩ (.slice (some ⟨w.heap.size + 4, 0, none⟩) ps.length (ps.length + 3))) (w.heap.size + 1) _ #[.int .u64 (n : Int), .slice (some ⟨w.heap.size + 3, 0, none⟩) dl (dl + 3), .slice (some ⟨w.heap.size + 4, 0, none⟩) ps.length (ps.length + 3)] _ _ s1
    have hb9 := below_setRow (g := w.heap.size + 1) hb8 (by omega) #[.int .u64 (n : Int), .slice (some ⟨w.heap.size + 3, 0, none⟩) dl (dl + 3), .slice (some ⟨w.heap.size + 4, 0, none⟩) ps.length (ps.length + 3)]
    have hz9 : ((wr.setCell ⟨w.heap.size + 1 + 1, 2, none⟩ (.slice (some ⟨w.heap.size + 4, 0, none⟩) ps.length (ps.length + 3))).setRow (w.heap.size + 1) #[.int .u64 (n : Int), .slice (some ⟨w.heap.size + 3, 0, none⟩) dl (dl + 3), .slice (some ⟨w.heap.size + 4, 0, none⟩) ps.length (ps.length + 3)]).heap.size = wr.heap.size := by simp
    have hel : ∀ q, w.heap.size + 3 ≤ q → ((wr.setCell ⟨w.heap.size + 1 + 1, 2, none⟩ (.slice (some ⟨w.heap.size + 4, 0, none⟩) ps.length (ps.length + 3))).setRow (w.heap.size + 1) #[.int .u64 (n : Int), .slice (some ⟨w.heap.size + 3, 0, none⟩) dl (dl + 3), .slice (some ⟨w.heap.size + 4, 0, none⟩) ps.length (ps.length + 3)]).heap[q]? = wr.heap[q]? := fun q hq => (setRow_other _ (w.heap.size + 1) q #[.int .u64 (n : Int), .slice (some ⟨w.heap.size + 3, 0, none⟩) dl (dl + 3), .slice (some ⟨w.heap.size + 4, 0, none⟩) ps.length (ps.length + 3)] (by omega)).trans (heap_setCell_other _ _ q _ (by show q ≠ w.heap.size + 1 + 1; omega))
    have hfin : HVt ((wr.setCell ⟨w.heap.size + 1 + 1, 2, none⟩ (.slice (some ⟨w.heap.size + 4, 0, none⟩) ps.length (ps.length + 3))).setRow (w.heap.size + 1) #[.int .u64 (n : Int), .slice (some ⟨w.heap.size + 3, 0, none⟩) dl (dl + 3), .slice (some ⟨w.heap.size + 4, 0, none⟩) ps.length (ps.length + 3)]) (fun b => w.heap.size ≤ b) ⟨n, some ⟨w.heap.size + 3, 0, none⟩, bs.length, bs.length + 3, some ⟨w.heap.size + 4, 0, none⟩, ps.length, ps.length + 3⟩ (.mk n bs ps) := by
     have hg : ∀ i, i < ps.length + 3 → ((wr.setCell ⟨w.heap.size + 1 + 1, 2, none⟩ (.slice (some ⟨w.heap.size + 4, 0, none⟩) ps.length (ps.length + 3))).setRow (w.heap.size + 1) #[.int .u64 (n : Int), .slice (some ⟨w.heap.size + 3, 0, none⟩) dl (dl + 3), .slice (some ⟨w.heap.size + 4, 0, none⟩) ps.length (ps.length + 3)]).rangeAt (w.heap.size + 4) (i * 3) (pvw ps.length vs (ps.length + 3) i) := fun i hi => range_same (hR.range hi) (hel _ (by omega))
     refine .mk n (w.heap.size + 3) (w.heap.size + 4) bs vs ps hn h1 h2 (by omega) (by omega) (by omega) (by omega) ((hel _ (by omega)).trans rD1) hvl (fun i hi => ?_) (fun i h1 h2 => ?_) (fun i hi => (hN i hi).keep (by omega) fun q _ h2 => ⟨hel q (by omega), by omega⟩)
     ·have := hg i (by omega)
      rwa [show pvw ps.length vs (ps.length + 3) i = (vrv (gx vs i)).toList by unfold pvw; rw [if_pos (by omega), if_pos hi]] at this
     ·have := hg i h2
      rwa [show pvw ps.length vs (ps.length + 3) i = pmk by unfold pvw; rw [if_pos (by omega), if_neg (by omega)]] at this
    have hone : (#[Value.int .u64 (n : Int), .slice (some ⟨w.heap.size + 3, 0, none⟩) dl (dl + 3), .slice (some ⟨w.heap.size + 4, 0, none⟩) ps.length (ps.length + 3)] : Array Value).all (·.oneCell') = true := by simp [Value.oneCell']
    have A1 := hide hb9
    have A2 := hide hfin
    have A3 := hide t1
    have A4 := hide s2
    have A5 := hide s1
    clear hs ih hR hN hB hb9 hfin t1 hel hb8 r1 r2 rD1 s1 s2 hz8 hz9
    go_upto_region 17 with (fail)
    have s2 := A4.out
    have s1 := A5.out
    generalize wr.setCell ⟨w.heap.size + 1 + 1, 2, none⟩ (.slice (some ⟨w.heap.size + 4, 0, none⟩) ps.length (ps.length + 3)) = w8 at *
    go_wp2_with (first | (refine wpList_load_want rfl 27 _ rfl (w.heap.size + 1 + 1) rfl 27 _ (0, 0) _ s2 Tryz.underlying27 rfl infoV ?_) | (refine wpList_store_row rfl 27 _ _ rfl (w.heap.size + 1) #[.int .u64 (n : Int), .slice (some ⟨w.heap.size + 3, 0, none⟩) dl (dl + 3), .slice (some ⟨w.heap.size + 4, 0, none⟩) ps.length (ps.length + 3)] rfl rfl 27 _ s1 infoV rfl hone ?_) | fail)
    have hdl := hdlh.out
    subst hdl
    exact bodyPost_ret (v := .agg #[.int .u64 (n : Int), .slice (some ⟨w.heap.size + 3, 0, none⟩) bs.length (bs.length + 3), .slice (some ⟨w.heap.size + 4, 0, none⟩) ps.length (ps.length + 3)]) (results_cell_row Tryz.results10 _ _ (w.heap.size + 1) _ _ _ _ rfl A3.out Tryz.underlying27 rfl infoV) rfl ⟨_, rfl, A1.out, A2.out⟩
end Go.Proofs.YtmmlkfkpblokiaaGreatDoor
namespace Go.Proofs.YtmmlkfkpblokiaaGreatDoor
set_option maxRecDepth 100000
open Go Go.RowKit Go.Sort
attribute [local go_sem] setCell_drewN alloc_drewN
theorem conv_byT {W : World} {v : Value} {bs : List Int} (h : Bys W v bs) : (convert 24 9 v).run Tryz.prog W = .ok (.string (strOfNums bs)) W := by
 obtain ⟨ao, cap, rfl, _, hc, _⟩ := h
 cases ao with
 | none =>
  have : bs = [] := by
   cases bs with
   | nil => rfl
   | cons x xs => obtain ⟨b, off, e, _⟩ := hc 0 (by simp); cases e
  subst this
  exact run_convert_bytes_nil W 24 5 Tryz.underlying24 Tryz.underlying5 _ _ 9 Tryz.underlying9
 | some ad =>
  rcases Nat.eq_zero_or_pos bs.length with e0 | e0
  ·have : bs = [] := List.eq_nil_of_length_eq_zero e0
   subst this
   obtain ⟨b, off, sp⟩ := ad
   rw [run_convert_bytes_string W 24 9 5 _ _ _ Tryz.underlying24 Tryz.underlying5 Tryz.underlying9]
   have := run_bytesToString (P := Tryz.prog) W ⟨b, off, sp⟩ 0 cap [] (by rfl)
   exact this
  ·obtain ⟨b, off, e, _⟩ := hc 0 e0
   cases e
   exact run_convert_bytes_arg W 24 5 Tryz.underlying24 Tryz.underlying5 b off bs.length cap bs rfl (fun i hi => by
    obtain ⟨b', off', e, _, h⟩ := hc i hi
    cases e
    exact h) 9 Tryz.underlying9
end Go.Proofs.YtmmlkfkpblokiaaGreatDoor

