import Derived.Test.YtgbkbcgjagcgbaaGreatDoorProg
import Derived.WalkKit
import Derived.WalkSpells
import Derived.WalkLawsBesides
import Derived.Lib.QuietBelow
import Derived.BigQuiet
import Derived.OrdersHeld
import Derived.Deep.RegionHeld3
import Derived.OwnWalk
import Derived.Deep.Cut
import Derived.Test.YtgbkbcgjagcgbaaGreatDoorKa
import Derived.Test.YtgbkbcgjagcgbaaGreatDoorAa4
import Derived.Test.YtgbkbcgjagcgbaaGreatDoorNo
namespace Go.Proofs.YtgbkbcgjagcgbaaGreatDoor
set_option maxRecDepth 100000
open Go Go.RowKit Go.Sort
attribute [local go_sem] setCell_drewN alloc_drewN
def shH (m : List Int) : List Int := shL (m.take 32) (m.drop 32)
def erH (m : List Int) : Int := wkE (m.take 32) (m.drop 32)
theorem ext_sub {cur : Array Value} {m : List Int} {a n o j : Nat} (h : cur.extract a (a + (irow .u8 m).size) = irow .u8 m) (hm : m.length = n) (ho : o + j ≤ n) : cur.extract (a + o) (a + o + (irow .u8 ((m.drop o).take j)).size) = irow .u8 ((m.drop o).take j) := by
 have hj : ((m.drop o).take j).length = j := by simp; omega
 rw [irow_size, hj]
 rw [irow_size, hm] at h
 have e := congrArg (fun c : Array Value => c.extract o (o + j)) h
 simp only [Array.extract_extract] at e
 have q : min (a + (o + j)) (a + n) = a + o + j := by omega
 rw [q] at e
 rw [e]
 apply Array.ext'
 simp [irow, List.map_take, List.map_drop, List.extract_eq_take_drop]
theorem wpList_bs1 {ops : Array Oper} {rest : List Oper} {o : Oper} {a : Act} {w : World} {Q : Exit → Act → World → Prop} (hgd : o.guard = none) (ho : o.op = .buildSlice 28 1 #[(0, .const (.int .u8 255))])
   (h : wpList Tryz.prog ops Q rest (a.put o.dst (.slice (some ⟨w.heap.size, 0, none⟩) 1 1)) (w.alloc (.cells #[.int .u8 255] 5))) : wpList Tryz.prog ops Q (o :: rest) a w := by
 refine wpList_wop hgd _ _ ?_ h
 have hr := run_bs1 w
 unfold execOp
 simp only [ho, Sem.run_bind, Sem.run_pure, List.map_toArray, List.map_cons, List.map_nil, Act.eval, hr, Result.andThen_ok]
theorem row_news1 {W : World} {g : Nat} {t : TypeId} (rg : W.heap[g]? = some (.cells #[.int .u8 255] t (0, 0))) : ∀ j u, (([255] : List Int).map (Value.int .u8))[j]? = some u → W.cell? ((⟨g, 0, none⟩ : Addr).add j) = some u := by
 intro j u hj
 rw [addr_add, cell_of_row _ _ _ _ _ _ rg, Nat.zero_add]
 simpa using hj
theorem exR {f : FuncId} {args : Array Value} {w : World} {v : Value} {Bp : World → Prop} (h : Calls Tryz.prog f args w fun e w' => e = .returned v ∧ Bp w') : Calls Tryz.prog f args w fun e w' => ∃ v', e = .returned v' ∧ v' = v ∧ Bp w' := h.mono fun _ _ ⟨a, b⟩ => ⟨v, a, rfl, b⟩
def fl (P : List Int) (k : Nat) : List Int := P.take k ++ zr (32 - k)
theorem fl_0 (P : List Int) : fl P 0 = zr 32 := by simp [fl]
theorem fl_len (P : List Int) (k : Nat) (hP : P.length = 32) (hk : k ≤ 32) : (fl P k).length = 32 := by simp [fl, zr_len, hP]; omega
theorem fl_32 (P : List Int) (hP : P.length = 32) : fl P 32 = P := by
 rw [fl, List.take_of_length_le (by omega)]
 simp [zr]
theorem fl_set (P : List Int) (k : Nat) (hP : P.length = 32) (hk : k < 32) : (fl P k).set k (P.getD k 0) = fl P (k + 1) := by
 apply List.ext_getElem
 · rw [List.length_set, fl_len P k hP (by omega), fl_len P (k + 1) hP (by omega)]
 · intro i h1 h2
   rw [fl_len P (k + 1) hP (by omega)] at h2
   rw [List.getElem_set]
   simp only [fl, List.getElem_append, List.length_take, hP, zr, List.getElem_replicate, List.getElem_take]
   by_cases e : k = i
   · subst e
     rw [if_pos rfl, dif_pos (by omega), List.getD_eq_getElem?_getD, List.getElem?_eq_getElem (by omega)]
     rfl
   · rw [if_neg e]
     by_cases q : i < k
     · rw [dif_pos (by omega), dif_pos (by omega)]
     · rw [dif_neg (by omega), dif_neg (by omega)]
theorem k8_set (a : List Int) (k : Nat) (x : Int) : (k8 a).set k (.int .u8 x) = k8 (a.set k x) := by simp [k8, List.map_set]
theorem sc_set_a (a b c : List Int) (v : Value) (k : Nat) (x : Int) (ha : a.length = 32) (hk : k < 32) : (scr a b c v).setIfInBounds k (.int .u8 x) = scr (a.set k x) b c v := by
 rw [scr, List.setIfInBounds_toArray, List.set_append_left _ _ (by rw [k8_len]; omega), k8_set]
 rfl
theorem sc_set_b (a b c : List Int) (v : Value) (k : Nat) (x : Int) (ha : a.length = 32) (hb : b.length = 32) (hk : k < 32) : (scr a b c v).setIfInBounds (32 + k) (.int .u8 x) = scr a (b.set k x) c v := by
 rw [scr, List.setIfInBounds_toArray, List.set_append_right _ _ (by rw [k8_len]; omega), k8_len, ha, Nat.add_sub_cancel_left, List.set_append_left _ _ (by rw [k8_len]; omega), k8_set]
 rfl
theorem sc_set_c (a b c : List Int) (v : Value) (k : Nat) (x : Int) (ha : a.length = 32) (hb : b.length = 32) (hc : c.length = 32) (hk : k < 32) : (scr a b c v).setIfInBounds (64 + k) (.int .u8 x) = scr a b (c.set k x) v := by
 rw [scr, List.setIfInBounds_toArray, List.set_append_right _ _ (by rw [k8_len]; omega), k8_len, ha, List.set_append_right _ _ (by rw [k8_len]; omega), k8_len, hb, show 64 + k - 32 - 32 = k by omega, List.set_append_left _ _ (by rw [k8_len]; omega), k8_set]
 rfl
theorem wpList_store_cellR {P : Program} {ops : Array Oper} {rest : List Oper} {o : Oper} {a : Act} {w : World} {Q : Exit → Act → World → Prop} (hgd : o.guard = none) (ty : TypeId) (x y : Operand) (ho : o.op = .store ty x y)
   (g off : Nat) (v : Value) (hx : a.eval x = .pointer (some ⟨g, off, none⟩)) (hy : a.eval y = v) (t : TypeId) (old new : Array Value) (hg : w.heap[g]? = some (.cells old t (0, 0))) (hlt : off < old.size) (hnew : old.setIfInBounds off v = new)
   (hi : (P.info? ty).map (·.size) = some 1) (h1 : v.oneCell' = true)
   (h : wpList P ops Q rest (a.put o.dst undef) (w.setRow g new)) : wpList P ops Q (o :: rest) a w :=
 wpList_plain hgd fun _ hK => wp_store_cellR ty x y ho g off v hx hy t old new hg hlt hnew hi h1 (hK _ _ h)
theorem cellB {W W' : World} {b o : Nat} {v : Value} (h : W.cell? ⟨b, o, none⟩ = some v) (e : W'.heap[b]? = W.heap[b]?) : W'.cell? ⟨b, o, none⟩ = some v := by
 rw [← h]; simp only [World.cell?, e]
theorem bysM_own {W : World} {b : Nat} {v : Value} {l : List Int} (h : OwnI W b v l) (hl : l.length ≤ 1000000) (hz : ∀ z ∈ l, 0 ≤ z ∧ z < 256) : BysM W v l := by
 refine ⟨((Sec.bys (.inl h)) (by omega) hz).1, by omega, fun a n c e ha => ?_⟩
 obtain ⟨_, ⟨rfl, h0⟩ | ⟨g, cap, cur, rfl, _⟩⟩ := h
 · cases e; rfl
 · cases e; cases ha
theorem bysM_some {W : World} {g n c : Nat} {l : List Int} (h : Bys W (.slice (some ⟨g, 0, none⟩) n c) l) (hl : l.length ≤ 1000000) : BysM W (.slice (some ⟨g, 0, none⟩) n c) l := ⟨h, by omega, fun a n c e ha => by cases e; cases ha⟩
theorem own_mt {W : World} {g : Nat} (r : W.heap[g]? = some (.cells #[] 5 (0, 0))) : OwnI W g (.slice (some ⟨g, 0, none⟩) 0 0) [] := ⟨rfl, .inr ⟨g, 0, #[], rfl, Nat.le_refl _, r, Nat.le_refl _, by decide, rfl, rfl⟩⟩
set_option maxRecDepth 100000 in
set_option maxHeartbeats 4000000 in
theorem r_secrets (hs : List (List Int)) (hhs : ∀ m ∈ hs, m.length = 64) (hbs : ∀ m ∈ hs, B8 m) (h1 : 0 < hs.length) (h4 : hs.length ≤ 4) (p q : List Int) (hp : p.length = 32) (hq : q.length = 32) (b : Nat) (v : Value) (w0 : World) (hv : OwnE 49 64 w0 b v hs) : Calls Tryz.prog 16 #[v, .agg (irow .u8 p), .agg (irow .u8 q)] w0 (SeR shH erH hs p q w0) := by
 obtain ⟨gl, cap, _, rfl, -, -⟩ := hv.part hhs 0 h1
 have hgl := (hv.lt gl rfl).2
 have R0 := hp3_0 w0 (.cells (irow .u8 p) 23) (.cells (irow .u8 q) 23) (.cells scz 30)
 have R1 := hp3_1 w0 (.cells (irow .u8 p) 23) (.cells (irow .u8 q) 23) (.cells scz 30)
 have R2 := hp3_2 w0 (.cells (irow .u8 p) 23) (.cells (irow .u8 q) 23) (.cells scz 30)
 have hw0 : Below w0.heap.size w0 (((w0.alloc (.cells (irow .u8 p) 23)).alloc (.cells (irow .u8 q) 23)).alloc (.cells scz 30)) := ((((Below.refl _ _).alloc (Nat.le_refl _) _).alloc (by simp) _).alloc (by simp; omega) _)
 replace hv := hv.keep hw0
 go_enter Tryz.func16, Tryz.ntmps16
 go_upto_region 1 with (first | (refine wpList_box rfl 23 _ rfl _ rfl (bKy _) ?_) | (refine wpList_alloc rfl 30 rfl scz zScA ?_) | fail)
 try simp only [size_alloc1, Act.put, List.setIfInBounds_toArray, List.set_cons_succ, List.set_cons_zero]
 generalize (((w0.alloc (.cells (irow .u8 p) 23)).alloc (.cells (irow .u8 q) 23)).alloc (.cells scz 30)) = w at *
 have lt2 := lt_of_row R2
 have sz0 := hw0.size
 go_wp2_with (fail)
 go_loopw [8, 9] (fun v i wr => ∃ k : Nat, k ≤ 32 ∧ i = .int .i64 k ∧ OwnI wr w.heap.size v (List.replicate k 255) ∧ Below w.heap.size w wr) (fun _ i _ => 32 - (intOf i).toNat)
 case atStart => exact ⟨0, by omega, rfl, ⟨rfl, .inl ⟨rfl, rfl⟩⟩, Below.refl _ _⟩
 case round =>
   obtain ⟨k, hk, rfl, hO, hw⟩ := hrel
   by_cases hlt : k < 32
   · have hd : decide ((k : Int) < 32) = true := by simp; omega
     have hk1 : List.replicate (k + 1) (255 : Int) = List.replicate k 255 ++ [255] := List.replicate_succ'
     have hln : (List.replicate k (255 : Int)).length + [(255 : Int)].length ≤ 1000000 := by simp; omega
     generalize List.replicate k (255 : Int) = S at *
     go_upto_region 5 with (fail)
     repeat ((fail_if_success (refine wpList_bs1 rfl rfl ?_)); first | go_skip | go_step)
     refine wpList_bs1 rfl rfl ?_
     try simp only [Act.put, List.setIfInBounds_toArray, List.set_cons_succ, List.set_cons_zero]
     have z_ := hp1_0 wr (.cells #[.int .u8 255] 5)
     have hb_ : Below wr.heap.size wr (wr.alloc (.cells #[.int .u8 255] 5)) := (Below.refl _ _).alloc (Nat.le_refl _) _
     replace hO := hO.keep hb_
     replace hw := Below.after hw hb_
     have szq := hw.size
     clear hb_
     generalize wr.alloc (.cells #[.int .u8 255] 5) = w5 at *
     generalize wr.heap.size = g5 at *
     replace hk1 := hide hk1
     repeat ((fail_if_success (refine wpList_append_sec rfl _ _ rfl w.heap.size _ _ rfl (.inl hO) ⟨g5, 0, none⟩ [255] 1 rfl (row_news1 z_) (by simp) hln szq (fun v' w' hO4 hgr => ?_))); first | go_skip | go_step)
     refine wpList_append_sec rfl _ _ rfl w.heap.size _ _ rfl (.inl hO) ⟨g5, 0, none⟩ [255] 1 rfl (row_news1 z_) (by simp) hln szq (fun v' w' hO4 hgr => ?_)
     have hb4 := hw.grown hgr szq (fun z e => (hO.lt z e).1)
     clear hgr hO hw
     go_wp2_with (fail)
     refine ⟨⟨k + 1, by omega, by go_num, by rw [hk1.out]; exact hO4, hb4⟩, ?_⟩
     simp [intOf]; omega
   · obtain rfl : k = 32 := by omega
     have hO2 : OwnI wr w.heap.size u8 (sec ((hs.take 0).map shH)) := by
       rw [List.take_zero, List.map_nil, sec_nil]; exact hO
     have hwA := hw
     clear hO hw hlt hk
     go_wp2_with (fail)
     go_loopw [8, 10] (fun v i wr => ∃ k : Nat, k ≤ hs.length ∧ i = .int .i64 k ∧ (∀ j, j < k → erH (hs.getD j []) = 0) ∧ OwnI wr w.heap.size v (sec ((hs.take k).map shH)) ∧ Below w.heap.size w wr) (fun _ i _ => hs.length - (intOf i).toNat)
     case atStart => exact ⟨0, by omega, rfl, fun j hj => by omega, hO2, hwA⟩
     case round =>
       clear hO2 hwA
       obtain ⟨k, hk, rfl, h0, hO, hw⟩ := hrel
       by_cases hlt : k < hs.length
       · have hd : decide ((k : Int) < (hs.length : Int)) = true := by simp; omega
         have hvr := hv.move (fun g o e hg => by cases e; exact (hw.block gl (by omega)).trans hg)
         obtain ⟨g1, cap1, cur, hvv, r1, x1⟩ := hvr.part hhs k hlt
         cases hvv
         have hmem : hs.getD k [] ∈ hs := by rw [List.getD_eq_getElem?_getD, List.getElem?_eq_getElem hlt]; exact List.getElem_mem _
         have hm := hhs _ hmem
         have hB := hbs _ hmem
         have hk1 : sec ((hs.take (k + 1)).map shH) = sec ((hs.take k).map shH) ++ shH (hs.getD k []) := by
           rw [List.take_add_one, List.map_append, List.getElem?_eq_getElem hlt, List.getD_eq_getElem?_getD, List.getElem?_eq_getElem hlt]
           exact sec_snoc _ _
         have hsl : (sec ((hs.take k).map shH)).length + 32 ≤ 1000000 := by
           rw [sec_len _ (fun x hx => by obtain ⟨m, _, rfl⟩ := List.mem_map.1 hx; exact shL_len _ _), List.length_map, List.length_take]; omega
         have hfe := fun e => fer_take erH hs k h0 hlt e
         have h0' : erH (hs.getD k []) = 0 → ∀ j, j < k + 1 → erH (hs.getD j []) = 0 := fun e j hj => by
           rcases Nat.lt_or_ge j k with z | z
           · exact h0 j z
           · rw [show j = k by omega]; exact e
         clear h0 hvr
         generalize hs.getD k [] = m at *
         generalize sec ((hs.take k).map shH) = S at *
         have e0 := ext_sub (o := 0) (j := 32) x1 hm (by omega)
         have e1 := ext_sub (o := 32) (j := 32) x1 hm (by omega)
         rw [List.drop_zero] at e0
         rw [List.take_of_length_le (show (m.drop 32).length ≤ 32 by simp; omega)] at e1
         have K1 : K8 (m.take 32) := ⟨by simp; omega, hB.take 32⟩
         have K2 : K8 (m.drop 32) := ⟨by simp; omega, hB.drop 32⟩
         have lx := K1.1
         have ly := K2.1
         have hY : (shH m).length = 32 := shL_len _ _
         have eY : shL (m.take 32) (m.drop 32) = shH m := rfl
         have eE : wkE (m.take 32) (m.drop 32) = erH m := rfl
         have d_sh := @d_shared (m.take 32) (m.drop 32)
         rw [eY, eE] at d_sh
         generalize shH m = Y at *
         generalize m.take 32 = mx at *
         generalize m.drop 32 = my at *
         clear eY eE
         have hk0 : (0 : Int) ≤ (k : Int) := by omega
         have hki : (k : Int) < (hs.length : Int) := by omega
         go_upto_region 9 with (fail)
         have hbd : Below wr.heap.size wr wr.drew := below_drN (Below.refl _ _) 1
         replace r1 := keep hbd r1
         replace hO := hO.keep hbd
         replace hw := Below.after hw hbd
         clear hbd
         refine wp_region_noPanic ?_
         refine wp_region_held (S := fun W => W.heap[gl]? = some (.cells cur 49 (0, 0))) (by kernel_rfl) ?_
         change wpAnyH _ _ _ _ _ _ _ _ (World.drew _)
         generalize wr.drew = w9 at *
         refine wpAnyH_take (i := 0) (v := ?v20) rfl (by kernel_rfl) (by kernel_rfl) (by kernel_rfl) (fun _ _ _ h => h) (Or.inl ⟨by rfl, ?y20⟩) (r1) ?r20
         case y20 =>
           intro w_ hS_
           go_simp
           try with_reducible rfl
         simp only [Act.put, List.getElem_toArray, List.getElem_cons_zero, List.setIfInBounds_toArray, List.set_cons_succ, List.set_cons_zero]
         refine wpAnyH_take (i := 1) (v := ?v21) rfl (by kernel_rfl) (by kernel_rfl) (by kernel_rfl) (fun _ _ _ h => h) (Or.inl ⟨by rfl, ?y21⟩) (r1) ?r21
         case y21 =>
           intro w_ hS_
           go_simp
           try with_reducible rfl
         simp only [Act.put, List.getElem_toArray, List.getElem_cons_succ, List.getElem_cons_zero, List.setIfInBounds_toArray, List.set_cons_succ, List.set_cons_zero]
         refine wpAnyH_take (i := 2) (v := .pointer (some ⟨gl, k * 64, none⟩)) rfl (by kernel_rfl) (by kernel_rfl) (by kernel_rfl) (fun _ _ _ h => h) (Or.inl ⟨by rfl, ?y22⟩) (r1) ?r22
         case y22 =>
           intro w_ hS_
           go_simp
           try with_reducible rfl
         simp only [Act.put, List.getElem_toArray, List.getElem_cons_succ, List.getElem_cons_zero, List.setIfInBounds_toArray, List.set_cons_succ, List.set_cons_zero]
         refine wpAnyH_take (i := 3) (v := .pointer (some ⟨gl, k * 64 + 0, none⟩)) rfl (by kernel_rfl) (by kernel_rfl) (by kernel_rfl) (fun _ _ _ h => h) (Or.inl ⟨by rfl, ?y23⟩) (r1) ?r23
         case y23 =>
           intro w_ hS_
           go_simp
           try with_reducible rfl
         simp only [Act.put, List.getElem_toArray, List.getElem_cons_succ, List.getElem_cons_zero, List.setIfInBounds_toArray, List.set_cons_succ, List.set_cons_zero]
         refine wpAnyH_take (i := 4) (v := .agg (irow .u8 mx)) rfl (by kernel_rfl) (by kernel_rfl) (by kernel_rfl) (fun _ _ _ h => h) (Or.inl ⟨by rfl, ?y24⟩) (r1) ?r24
         case y24 =>
           intro w_ hS_
           simp only [List.getElem_toArray, List.getElem_cons_succ, List.getElem_cons_zero]
           exact run_load_part 23 _ (by rfl) (gl) (k * 64 + 0) (by rfl) 49 cur (0, 0) (irow .u8 mx) _ (hS_) e0 Tryz.underlying23 rfl (infoKy _ lx)
         simp only [Act.put, List.getElem_toArray, List.getElem_cons_succ, List.getElem_cons_zero, List.setIfInBounds_toArray, List.set_cons_succ, List.set_cons_zero]
         refine wpAnyH_take (i := 5) (v := ?v25) rfl (by kernel_rfl) (by kernel_rfl) (by kernel_rfl) (fun _ _ _ h => h) (Or.inl ⟨by rfl, ?y25⟩) (r1) ?r25
         case y25 =>
           intro w_ hS_
           go_simp
           try with_reducible rfl
         simp only [Act.put, List.getElem_toArray, List.getElem_cons_succ, List.getElem_cons_zero, List.setIfInBounds_toArray, List.set_cons_succ, List.set_cons_zero]
         refine wpAnyH_take (i := 6) (v := ?v26) rfl (by kernel_rfl) (by kernel_rfl) (by kernel_rfl) (fun _ _ _ h => h) (Or.inl ⟨by rfl, ?y26⟩) (r1) ?r26
         case y26 =>
           intro w_ hS_
           go_simp
           try with_reducible rfl
         simp only [Act.put, List.getElem_toArray, List.getElem_cons_succ, List.getElem_cons_zero, List.setIfInBounds_toArray, List.set_cons_succ, List.set_cons_zero]
         refine wpAnyH_take (i := 7) (v := .pointer (some ⟨gl, k * 64, none⟩)) rfl (by kernel_rfl) (by kernel_rfl) (by kernel_rfl) (fun _ _ _ h => h) (Or.inl ⟨by rfl, ?y27⟩) (r1) ?r27
         case y27 =>
           intro w_ hS_
           go_simp
           try with_reducible rfl
         simp only [Act.put, List.getElem_toArray, List.getElem_cons_succ, List.getElem_cons_zero, List.setIfInBounds_toArray, List.set_cons_succ, List.set_cons_zero]
         refine wpAnyH_take (i := 8) (v := .pointer (some ⟨gl, k * 64 + 32, none⟩)) rfl (by kernel_rfl) (by kernel_rfl) (by kernel_rfl) (fun _ _ _ h => h) (Or.inl ⟨by rfl, ?y28⟩) (r1) ?r28
         case y28 =>
           intro w_ hS_
           go_simp
           try with_reducible rfl
         simp only [Act.put, List.getElem_toArray, List.getElem_cons_succ, List.getElem_cons_zero, List.setIfInBounds_toArray, List.set_cons_succ, List.set_cons_zero]
         refine wpAnyH_take (i := 9) (v := .agg (irow .u8 my)) rfl (by kernel_rfl) (by kernel_rfl) (by kernel_rfl) (fun _ _ _ h => h) (Or.inl ⟨by rfl, ?y29⟩) (r1) ?r29
         case y29 =>
           intro w_ hS_
           simp only [List.getElem_toArray, List.getElem_cons_succ, List.getElem_cons_zero]
           exact run_load_part 23 _ (by rfl) (gl) (k * 64 + 32) (by rfl) 49 cur (0, 0) (irow .u8 my) _ (hS_) e1 Tryz.underlying23 rfl (infoKy _ ly)
         simp only [Act.put, List.getElem_toArray, List.getElem_cons_succ, List.getElem_cons_zero, List.setIfInBounds_toArray, List.set_cons_succ, List.set_cons_zero]
         refine wpAnyH_two (j := 10) (k := 14) (fuel := 6) (by kernel_rfl) rfl rfl (by kernel_rfl) (by kernel_rfl) (fun K_ hK_ => ?_) (fun K_ hK_ => ?_)
         · refine wp_call_ex (f := 24) (by kernel_rfl) (exR ((d_sh K1 K2).at w9)) (fun v_ q1 hX_ => ?_)
           obtain ⟨rfl, hb_⟩ := hX_
           replace r1 := keep hb_ r1
           replace hO := hO.keep hb_
           replace hw := Below.after hw hb_
           clear hb_
           refine hK_ _ _ (r1) ?_
           simp only [Act.put, List.getElem_toArray, List.getElem_cons_succ, List.getElem_cons_zero, List.setIfInBounds_toArray, List.set_cons_succ, List.set_cons_zero]
           clear hK_
           refine wpAnyH_take (i := 11) (v := ?v30) rfl (by kernel_rfl) (by kernel_rfl) (by kernel_rfl) (fun _ _ _ h => h) (Or.inl ⟨by rfl, ?y30⟩) (r1) ?r30
           case y30 =>
             intro w_ hS_
             go_simp
             try with_reducible rfl
           simp only [Act.put, List.getElem_toArray, List.getElem_cons_succ, List.getElem_cons_zero, List.setIfInBounds_toArray, List.set_cons_succ, List.set_cons_zero]
           refine wpAnyH_take (i := 12) (v := ?v31) rfl (by kernel_rfl) (by kernel_rfl) (by kernel_rfl) (fun _ _ _ h => h) (Or.inl ⟨by rfl, ?y31⟩) (r1) ?r31
           case y31 =>
             intro w_ hS_
             go_simp
             try with_reducible rfl
           simp only [Act.put, List.getElem_toArray, List.getElem_cons_succ, List.getElem_cons_zero, List.setIfInBounds_toArray, List.set_cons_succ, List.set_cons_zero]
           refine wpAnyH_take (i := 13) (v := ?v32) rfl (by kernel_rfl) (by kernel_rfl) (by kernel_rfl) (fun _ _ _ h => h) (Or.inl ⟨by rfl, ?y32⟩) (r1) ?r32
           case y32 =>
             intro w_ hS_
             go_simp
             try with_reducible rfl
           simp only [Act.put, List.getElem_toArray, List.getElem_cons_succ, List.getElem_cons_zero, List.setIfInBounds_toArray, List.set_cons_succ, List.set_cons_zero]
           refine wpAnyH_one (k := 14) (fuel := 2) (by kernel_rfl) rfl (by kernel_rfl) (fun K_ hK_ => ?_)
           refine wp_world_op (.pointer (some ⟨q1.heap.size, 0, none⟩)) (q1.alloc (.cells (irow .u8 (zr 32)) 23)) (run_alloc_op 23 rfl _ zkey) ?_
           have hb_ : Below q1.heap.size q1 (q1.alloc (.cells (irow .u8 (zr 32)) 23)) := (Below.refl _ _).alloc (Nat.le_refl _) _
           have rK := hp1_0 q1 (.cells (irow .u8 (zr 32)) 23)
           have szk := hw.size
           have ltr1 := lt_of_row r1
           have ltO := fun z e => (hO.lt z e).2
           replace r1 := keep hb_ r1
           replace hO := hO.keep hb_
           replace hw := Below.after hw hb_
           clear hb_
           refine hK_ _ _ (r1) ?_
           simp only [Act.put, List.getElem_toArray, List.getElem_cons_succ, List.getElem_cons_zero, List.setIfInBounds_toArray, List.set_cons_succ, List.set_cons_zero]
           clear hK_
           generalize q1.alloc (.cells (irow .u8 (zr 32)) 23) = q2 at *
           generalize q1.heap.size = g3 at *
           refine wpAnyH_one (k := 15) (fuel := 1) (by kernel_rfl) rfl (by kernel_rfl) (fun K_ hK_ => ?_)
           refine wp_store_row 23 _ _ rfl (g3) (irow .u8 Y) rfl rfl 23 _ rK (infoKy _ hY) (fitN 32 _ _ (zr_len 32) hY) (irow_one _ _) ?_
           replace r1 := (setRow_other q2 (g3) gl (irow .u8 Y) (by omega)).trans r1
           replace hO := hO.move (fun z o e hz => (setRow_other q2 (g3) z (irow .u8 Y) (by have := ltO z e; omega)).trans hz)
           replace rK := setRow_heap q2 (g3) _ (irow .u8 Y) _ _ rK
           replace hw := below_setRow hw (show w.heap.size ≤ g3 by omega) (irow .u8 Y)
           refine hK_ _ _ (r1) ?_
           simp only [Act.put]
           clear hK_
           generalize q2.setRow (g3) (irow .u8 Y) = q4 at *
           refine wpAnyH_take (i := 16) (v := ?v33) rfl (by kernel_rfl) (by kernel_rfl) (by kernel_rfl) (fun _ _ _ h => h) (Or.inl ⟨by rfl, ?y33⟩) (r1) ?r33
           case y33 =>
             intro w_ hS_
             go_simp
             try with_reducible rfl
           simp only [Act.put, List.getElem_toArray, List.getElem_cons_succ, List.getElem_cons_zero, List.setIfInBounds_toArray, List.set_cons_succ, List.set_cons_zero]
           refine wpAnyH_done (by kernel_rfl) ?_ _
           refine NoPanic.normal ?_
           by_cases hE : erH m = 0
           · have hz1 := h0' hE
             rw [hE]
             clear hfe h0' hE
             have sk := slice_k g3
             have hnews := row_news rK
             replace hk1 := hide hk1
             have szq := hw.size
             go_upto_region 12 with (fail)
             repeat ((fail_if_success (refine wpList_append_sec rfl _ _ rfl w.heap.size _ _ rfl (.inl hO) ⟨g3, 0, none⟩ Y 32 (by rw [hY]; rfl) hnews (by omega) (by omega) szq (fun v' w' hO4 hgr => ?_))); first | go_skip | go_step)
             refine wpList_append_sec rfl _ _ rfl w.heap.size _ _ rfl (.inl hO) ⟨g3, 0, none⟩ Y 32 (by rw [hY]; rfl) hnews (by omega) (by omega) szq (fun v' w' hO4 hgr => ?_)
             have hb4 := hw.grown hgr szq (fun z e => (hO.lt z e).1)
             clear hgr hO hw sk
             go_wp2_with (fail)
             refine ⟨?_, ?_⟩
             · repeat apply Exists.intro
               refine ⟨?_, rfl⟩
               exact ⟨k + 1, by omega, by go_num, hz1, by rw [hk1.out]; exact hO4, hb4⟩
             · simp [intOf]; omega
           · have hfe' := hfe hE
             have hde : (erH m != 0) = true := by simp [hE]
             clear hfe h0' hk1
             replace hfe' := hide hfe'
             replace hE := hide hE
             generalize erH m = E at *
             have R3 := (hw.block (w0.heap.size + 1 + 1) lt2).trans R2
             have R4 := setRow_heap q4 (w0.heap.size + 1 + 1) _ scz _ _ R3
             have hw4 := below_setRow (hw0.trans (hw.mono sz0)) (show w0.heap.size ≤ w0.heap.size + 1 + 1 by omega) scz
             have zn := zr_len 32
             go_wp2_with (first | (refine wpList_build_as rfl 30 _ rfl [] rfl scz builtZc ?_) | (refine wpList_store_row rfl 30 _ _ rfl (w0.heap.size + 1 + 1) scz rfl rfl 30 _ R3 (info_scr _ _ _ _ zn zn zn) rfl (scr_one _ _ _ _ rfl) ?_) | fail)
             exact bodyPost_ret (Lo.results_row_slot Tryz.results16 _ _ (w0.heap.size + 1 + 1) _ _ _ _ _ rfl R4 rfl Tryz.underlying30 rfl (info_scr _ _ _ _ zn zn zn)) rfl ⟨.inl ⟨by rw [hfe'.out]; exact hE.out, by rw [hfe'.out]; rfl⟩, hw4⟩
         · refine wp_world_op (.pointer (some ⟨w9.heap.size, 0, none⟩)) (w9.alloc (.cells (irow .u8 (zr 32)) 23)) (run_alloc_op 23 rfl _ zkey) ?_
           have hb_ : Below w9.heap.size w9 (w9.alloc (.cells (irow .u8 (zr 32)) 23)) := (Below.refl _ _).alloc (Nat.le_refl _) _
           have rK := hp1_0 w9 (.cells (irow .u8 (zr 32)) 23)
           have szk := hw.size
           have ltr1 := lt_of_row r1
           have ltO := fun z e => (hO.lt z e).2
           replace r1 := keep hb_ r1
           replace hO := hO.keep hb_
           replace hw := Below.after hw hb_
           clear hb_
           refine hK_ _ _ (r1) ?_
           simp only [Act.put, List.getElem_toArray, List.getElem_cons_succ, List.getElem_cons_zero, List.setIfInBounds_toArray, List.set_cons_succ, List.set_cons_zero]
           clear hK_
           generalize w9.alloc (.cells (irow .u8 (zr 32)) 23) = q5 at *
           generalize w9.heap.size = g6 at *
           refine wpAnyH_one (k := 10) (fuel := 5) (by kernel_rfl) rfl (by kernel_rfl) (fun K_ hK_ => ?_)
           refine wp_call_ex (f := 24) (by kernel_rfl) (exR ((d_sh K1 K2).at q5)) (fun v_ q7 hX_ => ?_)
           obtain ⟨rfl, hb_⟩ := hX_
           have ltk := lt_of_row rK
           replace r1 := keep hb_ r1
           replace rK := keep hb_ rK
           replace hO := hO.keep hb_
           replace hw := Below.after hw hb_
           clear hb_
           refine hK_ _ _ (r1) ?_
           simp only [Act.put, List.getElem_toArray, List.getElem_cons_succ, List.getElem_cons_zero, List.setIfInBounds_toArray, List.set_cons_succ, List.set_cons_zero]
           clear hK_
           refine wpAnyH_take (i := 11) (v := ?v34) rfl (by kernel_rfl) (by kernel_rfl) (by kernel_rfl) (fun _ _ _ h => h) (Or.inl ⟨by rfl, ?y34⟩) (r1) ?r34
           case y34 =>
             intro w_ hS_
             go_simp
             try with_reducible rfl
           simp only [Act.put, List.getElem_toArray, List.getElem_cons_succ, List.getElem_cons_zero, List.setIfInBounds_toArray, List.set_cons_succ, List.set_cons_zero]
           refine wpAnyH_take (i := 12) (v := ?v35) rfl (by kernel_rfl) (by kernel_rfl) (by kernel_rfl) (fun _ _ _ h => h) (Or.inl ⟨by rfl, ?y35⟩) (r1) ?r35
           case y35 =>
             intro w_ hS_
             go_simp
             try with_reducible rfl
           simp only [Act.put, List.getElem_toArray, List.getElem_cons_succ, List.getElem_cons_zero, List.setIfInBounds_toArray, List.set_cons_succ, List.set_cons_zero]
           refine wpAnyH_take (i := 13) (v := ?v36) rfl (by kernel_rfl) (by kernel_rfl) (by kernel_rfl) (fun _ _ _ h => h) (Or.inl ⟨by rfl, ?y36⟩) (r1) ?r36
           case y36 =>
             intro w_ hS_
             go_simp
             try with_reducible rfl
           simp only [Act.put, List.getElem_toArray, List.getElem_cons_succ, List.getElem_cons_zero, List.setIfInBounds_toArray, List.set_cons_succ, List.set_cons_zero]
           refine wpAnyH_one (k := 15) (fuel := 1) (by kernel_rfl) rfl (by kernel_rfl) (fun K_ hK_ => ?_)
           refine wp_store_row 23 _ _ rfl (g6) (irow .u8 Y) rfl rfl 23 _ rK (infoKy _ hY) (fitN 32 _ _ (zr_len 32) hY) (irow_one _ _) ?_
           replace r1 := (setRow_other q7 (g6) gl (irow .u8 Y) (by omega)).trans r1
           replace hO := hO.move (fun z o e hz => (setRow_other q7 (g6) z (irow .u8 Y) (by have := ltO z e; omega)).trans hz)
           replace rK := setRow_heap q7 (g6) _ (irow .u8 Y) _ _ rK
           replace hw := below_setRow hw (show w.heap.size ≤ g6 by omega) (irow .u8 Y)
           refine hK_ _ _ (r1) ?_
           simp only [Act.put]
           clear hK_
           generalize q7.setRow (g6) (irow .u8 Y) = q8 at *
           refine wpAnyH_take (i := 16) (v := ?v37) rfl (by kernel_rfl) (by kernel_rfl) (by kernel_rfl) (fun _ _ _ h => h) (Or.inl ⟨by rfl, ?y37⟩) (r1) ?r37
           case y37 =>
             intro w_ hS_
             go_simp
             try with_reducible rfl
           simp only [Act.put, List.getElem_toArray, List.getElem_cons_succ, List.getElem_cons_zero, List.setIfInBounds_toArray, List.set_cons_succ, List.set_cons_zero]
           refine wpAnyH_done (by kernel_rfl) ?_ _
           refine NoPanic.normal ?_
           by_cases hE : erH m = 0
           · have hz1 := h0' hE
             rw [hE]
             clear hfe h0' hE
             have sk := slice_k g6
             have hnews := row_news rK
             replace hk1 := hide hk1
             have szq := hw.size
             go_upto_region 12 with (fail)
             repeat ((fail_if_success (refine wpList_append_sec rfl _ _ rfl w.heap.size _ _ rfl (.inl hO) ⟨g6, 0, none⟩ Y 32 (by rw [hY]; rfl) hnews (by omega) (by omega) szq (fun v' w' hO4 hgr => ?_))); first | go_skip | go_step)
             refine wpList_append_sec rfl _ _ rfl w.heap.size _ _ rfl (.inl hO) ⟨g6, 0, none⟩ Y 32 (by rw [hY]; rfl) hnews (by omega) (by omega) szq (fun v' w' hO4 hgr => ?_)
             have hb4 := hw.grown hgr szq (fun z e => (hO.lt z e).1)
             clear hgr hO hw sk
             go_wp2_with (fail)
             refine ⟨?_, ?_⟩
             · repeat apply Exists.intro
               refine ⟨?_, rfl⟩
               exact ⟨k + 1, by omega, by go_num, hz1, by rw [hk1.out]; exact hO4, hb4⟩
             · simp [intOf]; omega
           · have hfe' := hfe hE
             have hde : (erH m != 0) = true := by simp [hE]
             clear hfe h0' hk1
             replace hfe' := hide hfe'
             replace hE := hide hE
             generalize erH m = E at *
             have R3 := (hw.block (w0.heap.size + 1 + 1) lt2).trans R2
             have R4 := setRow_heap q8 (w0.heap.size + 1 + 1) _ scz _ _ R3
             have hw4 := below_setRow (hw0.trans (hw.mono sz0)) (show w0.heap.size ≤ w0.heap.size + 1 + 1 by omega) scz
             have zn := zr_len 32
             go_wp2_with (first | (refine wpList_build_as rfl 30 _ rfl [] rfl scz builtZc ?_) | (refine wpList_store_row rfl 30 _ _ rfl (w0.heap.size + 1 + 1) scz rfl rfl 30 _ R3 (info_scr _ _ _ _ zn zn zn) rfl (scr_one _ _ _ _ rfl) ?_) | fail)
             exact bodyPost_ret (Lo.results_row_slot Tryz.results16 _ _ (w0.heap.size + 1 + 1) _ _ _ _ _ rfl R4 rfl Tryz.underlying30 rfl (info_scr _ _ _ _ zn zn zn)) rfl ⟨.inl ⟨by rw [hfe'.out]; exact hE.out, by rw [hfe'.out]; rfl⟩, hw4⟩
       · obtain rfl : k = hs.length := by omega
         have hd : decide ((hs.length : Int) < (hs.length : Int)) = false := by simp
         have hf0 := fer_all erH hs h0
         rw [List.take_length] at hO
         replace hf0 := hide hf0
         have ltA : w0.heap.size < w.heap.size := by omega
         have ltB : w0.heap.size + 1 < w.heap.size := by omega
         have R0r := (hw.block w0.heap.size ltA).trans R0
         have R1r := (hw.block (w0.heap.size + 1) ltB).trans R1
         have R2r := (hw.block (w0.heap.size + 1 + 1) lt2).trans R2
         have hw1 := hw0.trans (hw.mono sz0)
         have hkl : ∀ x ∈ hs.map shH, x.length = 32 := fun x hx => by obtain ⟨m, _, rfl⟩ := List.mem_map.1 hx; exact shL_len _ _
         have hk8 : ∀ x ∈ hs.map shH, K8 x := fun x hx => by obtain ⟨m, _, rfl⟩ := List.mem_map.1 hx; exact shL_K8 _ _
         have hsl := sec_len (hs.map shH) hkl
         rw [List.length_map] at hsl
         have hC := bysM_own hO (by omega) (sec_bd _ hk8)
         have szr := hw.size
         clear hO hw h0 R0 R1 R2 hkl hk8 hv
         generalize hks : hs.map shH = ks at *
         replace hks := hide hks
         generalize wr = wA at *
         go_upto_region 13 with (fail)
         repeat ((fail_if_success (refine wpList_mk32 rfl rfl ?_)); first | go_skip | go_step)
         refine wpList_mk32 rfl rfl ?_
         have q1 := hp1_0 wA (.cells (irow .u8 (zr 32)) 5)
         have hb_ : Below wA.heap.size wA (wA.alloc (.cells (irow .u8 (zr 32)) 5)) := (Below.refl _ _).alloc (Nat.le_refl _) _
         replace R0r := keep hb_ R0r
         replace R1r := keep hb_ R1r
         replace R2r := keep hb_ R2r
         replace hC := hC.keep hb_
         replace hw1 := Below.after hw1 hb_
         clear hb_
         try simp only [Act.put, List.setIfInBounds_toArray, List.set_cons_succ, List.set_cons_zero]
         generalize wA.alloc (.cells (irow .u8 (zr 32)) 5) = w4 at *
         generalize wA.heap.size = g4 at *
         repeat ((fail_if_success (refine wpList_bs10 rfl rfl ?_)); first | go_skip | go_step)
         refine wpList_bs10 rfl rfl ?_
         try simp only [Act.put, List.setIfInBounds_toArray, List.set_cons_succ, List.set_cons_zero]
         refine wpList_cv rfl _ rfl _ (.slice (some ⟨w4.heap.size, 0, none⟩) 10 10) rfl (Go.Lib.run_convert_bytes_const (P := Tryz.prog) w4 28 5 #[.int .u8 112, .int .u8 97, .int .u8 119, .int .u8 108, .int .u8 32, .int .u8 97, .int .u8 103, .int .u8 114, .int .u8 101, .int .u8 101] 10 10 Tryz.underlying28 Tryz.underlying5) ?_
         have hN := bysM_some (agn_bys w4) (by decide)
         have hb_ : Below w4.heap.size w4 (w4.alloc (.cells #[.int .u8 112, .int .u8 97, .int .u8 119, .int .u8 108, .int .u8 32, .int .u8 97, .int .u8 103, .int .u8 114, .int .u8 101, .int .u8 101] 5 (10, 11))) := (Below.refl _ _).alloc (Nat.le_refl _) _
         replace R0r := keep hb_ R0r
         replace R1r := keep hb_ R1r
         replace R2r := keep hb_ R2r
         replace q1 := keep hb_ q1
         replace hC := hC.keep hb_
         replace hw1 := Below.after hw1 hb_
         clear hb_
         try simp only [Act.put, List.setIfInBounds_toArray, List.set_cons_succ, List.set_cons_zero]
         generalize w4.alloc (.cells #[.int .u8 112, .int .u8 97, .int .u8 119, .int .u8 108, .int .u8 32, .int .u8 97, .int .u8 103, .int .u8 114, .int .u8 101, .int .u8 101] 5 (10, 11)) = w5 at *
         generalize w4.heap.size = g5 at *
         have hA : BysM w5 (.slice (some ⟨g4, 0, none⟩) 32 32) (zr 32) := by
           have h := Bys.of_row q1 (by rw [zr_len]; omega) zr_bd32 32
           rw [zr_len] at h
           exact bysM_some h (by rw [zr_len]; omega)
         have hR : Hid (scb ks = xpd (hm (zr 32) (sec ks)) agn 96) := hide rfl
         have cD := r_derive4 (zr 32) (sec ks) agn 96 w5 (.slice (some ⟨g4, 0, none⟩) 32 32) u8 (.slice (some ⟨g5, 0, none⟩) 10 10) hA hC (by omega) hN (by decide)
         clear hA hC hN hsl q1
         go_wp2_with (fail)
         refine cD.mono ?_
         rintro e_ w6 ⟨v_, rfl, hX, hb⟩
         obtain ⟨m_, u, hm_, _, rfl, hNB⟩ | ⟨hm_, _⟩ := hX
         rotate_left
         · exact absurd hm_ (by decide)
         obtain rfl : m_ = 96 := by omega
         clear hm_ cD
         rw [← hR.out] at hNB
         replace R0r := keep hb R0r
         replace R1r := keep hb R1r
         replace R2r := keep hb R2r
         replace hw1 := Below.after hw1 hb
         clear hb
         have hxl := scb_len ks
         have l0 : (pt (scb ks) 0 32).length = 32 := pt_len _ _ _ (by omega)
         have l32 : (pt (scb ks) 32 32).length = 32 := pt_len _ _ _ (by omega)
         have l64 : (pt (scb ks) 64 32).length = 32 := pt_len _ _ _ (by omega)
         have g0 := fun i h => pt_get (scb ks) 0 32 i h
         have g32 := fun i h => pt_get (scb ks) 32 32 i h
         have g64 := fun i h => pt_get (scb ks) 64 32 i h
         generalize hP0 : pt (scb ks) 0 32 = P0 at *
         generalize hP1 : pt (scb ks) 32 32 = P1 at *
         generalize hP2 : pt (scb ks) 64 32 = P2 at *
         replace hP0 := hide hP0
         replace hP1 := hide hP1
         replace hP2 := hide hP2
         generalize hR0 : scb ks = R at *
         replace hR0 := hide hR0
         clear hR
         obtain ⟨⟨ao, cp, rfl, _, hc, _⟩, _⟩ := hNB
         obtain ⟨bb, off, rfl, ltb, _⟩ := hc 0 (by omega)
         have hcell : ∀ j, j < 96 → w6.cell? ⟨bb, off + j, none⟩ = some (.int .u8 (R.getD j 0)) := fun j hj => by
           obtain ⟨b2, o2, e, _, h⟩ := hc j (by omega)
           cases e
           exact h
         rw [hxl]
         clear hc
         have z_ := hp1_0 w6 (.cells scz 30)
         have zn := zr_len 32
         have lt6 := lt_of_row R2r
         go_upto_region 14 with (fail)
         go_wp2_with (first | (refine wpList_build_as rfl 30 _ rfl [] rfl scz builtZc ?_) | (refine wpList_alloc rfl 30 rfl scz zScA ?_) | (refine wpList_store_row rfl 30 _ _ rfl (w6.heap.size) scz rfl rfl 30 _ z_ (info_scr _ _ _ _ zn zn zn) rfl (scr_one _ _ _ _ rfl) ?_; refine wpList_stay ?_) | fail)
         unfold WpStay
         try simp only [Act.put, List.setIfInBounds_toArray, List.set_cons_succ, List.set_cons_zero]
         have R5 := setRow_heap (w6.alloc (.cells scz 30)) w6.heap.size _ scz _ _ z_
         have hb_ : Below w6.heap.size w6 ((w6.alloc (.cells scz 30)).setRow w6.heap.size scz) := below_setRow ((Below.refl _ _).alloc (Nat.le_refl _) _) (Nat.le_refl _) _
         replace R0r := keep hb_ R0r
         replace R1r := keep hb_ R1r
         replace R2r := keep hb_ R2r
         replace hw1 := Below.after hw1 hb_
         replace hcell : ∀ j, j < 96 → ((w6.alloc (.cells scz 30)).setRow w6.heap.size scz).cell? ⟨bb, off + j, none⟩ = some (.int .u8 (R.getD j 0)) := fun j hj => cellB (hcell j hj) (hb_.block bb ltb)
         clear hb_ z_
         generalize (w6.alloc (.cells scz 30)).setRow w6.heap.size scz = w7 at *
         have sz6 : w0.heap.size ≤ w6.heap.size := by omega
         generalize w6.heap.size = g7 at *
         go_wp2_with (fail)
         go_loopw [16] (fun i wr => ∃ k : Nat, k ≤ 32 ∧ i = .int .i64 k ∧ wr.heap[g7]? = some (.cells (scr (fl P0 k) (fl P1 k) (fl P2 k) (.slice none 0 0)) 30 (0, 0)) ∧ Below g7 w7 wr) (fun i _ => 32 - (intOf i).toNat)
         case atStart => exact ⟨0, by omega, rfl, by rw [fl_0, fl_0, fl_0]; exact R5, Below.refl _ _⟩
         case round =>
           clear R5
           obtain ⟨k, hk, rfl, R5, hb⟩ := hrel
           by_cases hlt : k < 32
           · have hd : decide ((k : Int) < 32) = true := by simp; omega
             have c0 := cellB (hcell k (by omega)) (hb.block bb ltb)
             have c1 := cellB (hcell (32 + k) (by omega)) (hb.block bb ltb)
             have c2 := cellB (hcell (64 + k) (by omega)) (hb.block bb ltb)
             have s0 := fl_set P0 k l0 hlt
             have s1 := fl_set P1 k l32 hlt
             have s2 := fl_set P2 k l64 hlt
             rw [g0 k hlt, Nat.zero_add] at s0
             rw [g32 k hlt] at s1
             rw [g64 k hlt] at s2
             have f0 := fl_len P0 k l0 hk
             have f1 := fl_len P1 k l32 hk
             have f2 := fl_len P2 k l64 hk
             have n0 := fl_len P0 (k + 1) l0 (by omega)
             have n1 := fl_len P1 (k + 1) l32 (by omega)
             generalize R.getD k 0 = y0 at *
             generalize R.getD (32 + k) 0 = y1 at *
             generalize R.getD (64 + k) 0 = y2 at *
             have t0 := sc_set_a (fl P0 k) (fl P1 k) (fl P2 k) (.slice none 0 0) k y0 f0 hlt
             rw [s0] at t0
             have t1 := sc_set_b (fl P0 (k + 1)) (fl P1 k) (fl P2 k) (.slice none 0 0) k y1 n0 f1 hlt
             rw [s1] at t1
             have t2 := sc_set_c (fl P0 (k + 1)) (fl P1 (k + 1)) (fl P2 k) (.slice none 0 0) k y2 n0 n1 f2 hlt
             rw [s2] at t2
             have z0 := scr_size (fl P0 k) (fl P1 k) (fl P2 k) (.slice none 0 0) f0 f1 f2
             have z1 := scr_size (fl P0 (k + 1)) (fl P1 k) (fl P2 k) (.slice none 0 0) n0 f1 f2
             have z2 := scr_size (fl P0 (k + 1)) (fl P1 (k + 1)) (fl P2 k) (.slice none 0 0) n0 n1 f2
             clear s0 s1 s2
             generalize scr (fl P0 k) (fl P1 k) (fl P2 k) (.slice none 0 0) = A0 at *
             generalize scr (fl P0 (k + 1)) (fl P1 k) (fl P2 k) (.slice none 0 0) = A1 at *
             generalize scr (fl P0 (k + 1)) (fl P1 (k + 1)) (fl P2 k) (.slice none 0 0) = A2 at *
             generalize hA3 : scr (fl P0 (k + 1)) (fl P1 (k + 1)) (fl P2 (k + 1)) (.slice none 0 0) = A3 at *
             replace hA3 := hide hA3
             replace t0 := hide t0
             replace t1 := hide t1
             replace t2 := hide t2
             replace z0 := hide z0
             replace z1 := hide z1
             replace z2 := hide z2
             have ci : (k : Int) < 96 := by omega
             have ck : (k : Int) < 32 := by omega
             have ci1 : 32 + (k : Int) < 96 := by omega
             have ci2 : 64 + (k : Int) < 96 := by omega
             have cw1 : IntKind.i64.wrap (32 + (k : Int)) = ((32 + k : Nat) : Int) := by rw [IntKind.wrap_i64]; omega
             have cw2 : IntKind.i64.wrap (64 + (k : Int)) = ((64 + k : Nat) : Int) := by rw [IntKind.wrap_i64]; omega
             go_upto_region 18 with (fail)
             go_wp2_with (first | (refine wpList_store_cellR rfl 5 _ _ rfl g7 (k) (.int .u8 y0) rfl rfl 30 A0 A1 R5 (by rw [z0.out]; omega) t0.out (by kernel_rfl) rfl ?_; refine wpList_stay ?_) | fail)
             unfold WpStay
             try simp only [Act.put, List.setIfInBounds_toArray, List.set_cons_succ, List.set_cons_zero]
             replace c1 := cellB c1 (setRow_other wr g7 bb A1 (by omega))
             replace c2 := cellB c2 (setRow_other wr g7 bb A1 (by omega))
             replace hb := below_setRow hb (Nat.le_refl _) A1
             replace R5 := setRow_heap wr g7 _ A1 _ _ R5
             generalize wr.setRow g7 A1 = wB at *
             go_wp2_with (first | (refine wpList_store_cellR rfl 5 _ _ rfl g7 (32 + k) (.int .u8 y1) rfl rfl 30 A1 A2 R5 (by rw [z1.out]; omega) t1.out (by kernel_rfl) rfl ?_; refine wpList_stay ?_) | fail)
             unfold WpStay
             try simp only [Act.put, List.setIfInBounds_toArray, List.set_cons_succ, List.set_cons_zero]
             replace c2 := cellB c2 (setRow_other wB g7 bb A2 (by omega))
             replace hb := below_setRow hb (Nat.le_refl _) A2
             replace R5 := setRow_heap wB g7 _ A2 _ _ R5
             generalize wB.setRow g7 A2 = wC at *
             go_wp2_with (first | (refine wpList_store_cellR rfl 5 _ _ rfl g7 (64 + k) (.int .u8 y2) rfl rfl 30 A2 A3 R5 (by rw [z2.out]; omega) t2.out (by kernel_rfl) rfl ?_; refine wpList_stay ?_) | fail)
             unfold WpStay
             try simp only [Act.put, List.setIfInBounds_toArray, List.set_cons_succ, List.set_cons_zero]
             replace hb := below_setRow hb (Nat.le_refl _) A3
             replace R5 := setRow_heap wC g7 _ A3 _ _ R5
             generalize wC.setRow g7 A3 = wD at *
             go_wp2_with (fail)
             refine ⟨⟨k + 1, by omega, by go_num, by rw [hA3.out]; exact R5, hb⟩, ?_⟩
             simp [intOf]; omega
           · obtain rfl : k = 32 := by omega
             rw [fl_32 P0 l0, fl_32 P1 l32, fl_32 P2 l64] at R5
             have R0s := (hb.block w0.heap.size (by omega)).trans R0r
             have R1s := (hb.block (w0.heap.size + 1) (by omega)).trans R1r
             have R2s := (hb.block (w0.heap.size + 1 + 1) lt6).trans R2r
             have hwB := hw1.trans (hb.mono sz6)
             have lt7 := lt_of_row R5
             clear hb R0r R1r R2r hcell hw1 g0 g32 g64
             have sk0 := slice_k w0.heap.size
             have sk1 := slice_k (w0.heap.size + 1)
             go_upto_region 21 with (fail)
             have hbd : Below wr.heap.size wr wr.drew := below_drN (Below.refl _ _) 1
             replace R0s := keep hbd R0s
             replace R1s := keep hbd R1s
             replace R2s := keep hbd R2s
             replace R5 := keep hbd R5
             replace hwB := Below.after hwB hbd
             clear hbd
             refine wp_region_noPanic ?_
             refine wp_region_held (S := fun _ => True) (by kernel_rfl) ?_
             change wpAnyH _ _ _ _ _ _ _ _ (World.drew _)
             generalize wr.drew = wE at *
             refine wpAnyH_take (i := 1) (v := .slice (some ⟨w0.heap.size, 0, none⟩) 32 32) rfl (by kernel_rfl) (by kernel_rfl) (by kernel_rfl) (fun _ _ _ h => h) (Or.inl ⟨by rfl, ?y38⟩) trivial ?r38
             case y38 =>
               intro w_ hS_
               go_simp
               try with_reducible rfl
             simp only [Act.put, List.getElem_toArray, List.getElem_cons_succ, List.getElem_cons_zero, List.setIfInBounds_toArray, List.set_cons_succ, List.set_cons_zero]
             refine wpAnyH_take (i := 3) (v := .slice (some ⟨w0.heap.size + 1, 0, none⟩) 32 32) rfl (by kernel_rfl) (by kernel_rfl) (by kernel_rfl) (fun _ _ _ h => h) (Or.inl ⟨by rfl, ?y39⟩) trivial ?r39
             case y39 =>
               intro w_ hS_
               go_simp
               try with_reducible rfl
             simp only [Act.put, List.getElem_toArray, List.getElem_cons_succ, List.getElem_cons_zero, List.setIfInBounds_toArray, List.set_cons_succ, List.set_cons_zero]
             refine wpAnyH_one (k := 0) (fuel := 4) (by kernel_rfl) rfl (by kernel_rfl) (fun K_ hK => ?_)
             refine wp_world_op (.slice (some ⟨wE.heap.size, 0, none⟩) 0 0) (wE.alloc (.cells #[] 5)) (by kernel_rfl) ?_
             have hb_ : Below wE.heap.size wE (wE.alloc (.cells #[] 5)) := (Below.refl _ _).alloc (Nat.le_refl _) _
             have hO0 := own_mt (hp1_0 wE (.cells #[] 5))
             have lt8 := lt_of_row R5
             have sz8 := hb_.size
             replace R0s := keep hb_ R0s
             replace R1s := keep hb_ R1s
             replace R2s := keep hb_ R2s
             replace R5 := keep hb_ R5
             replace hwB := Below.after hwB hb_
             clear hb_
             refine hK _ _ trivial ?_
             simp only [Act.put, List.getElem_toArray, List.getElem_cons_zero, List.setIfInBounds_toArray, List.set_cons_succ, List.set_cons_zero]
             clear hK
             generalize wE.alloc (.cells #[] 5) = wF at *
             generalize wE.heap.size = g8 at *
             refine wpAnyH_one (k := 2) (fuel := 3) (by kernel_rfl) rfl (by kernel_rfl) (fun K_ hK => ?_)
             refine wp_append_sec _ _ rfl g8 _ [] rfl (.inl hO0) ⟨w0.heap.size, 0, none⟩ p 32 (by rw [hp]; rfl) (row_news R0s) (by omega) (by simp [hp]) sz8 (fun v1 wG hO1 hgr => ?_)
             replace R0s := (hgr.block (w0.heap.size) (lt_of_row R0s) (fun e => by have := (hO0.lt (w0.heap.size) e.symm).1; omega)).trans R0s
             replace R1s := (hgr.block (w0.heap.size + 1) (lt_of_row R1s) (fun e => by have := (hO0.lt (w0.heap.size + 1) e.symm).1; omega)).trans R1s
             replace R2s := (hgr.block (w0.heap.size + 1 + 1) (lt_of_row R2s) (fun e => by have := (hO0.lt (w0.heap.size + 1 + 1) e.symm).1; omega)).trans R2s
             replace R5 := (hgr.block (g7) (lt_of_row R5) (fun e => by have := (hO0.lt (g7) e.symm).1; omega)).trans R5
             have szg := hgr.size
             replace hwB := hwB.grown hgr (by omega) (fun z e => by have := (hO0.lt z e).1; omega)
             replace sz8 : g8 ≤ wG.heap.size := by omega
             clear hgr szg hO0
             refine hK _ _ trivial ?_
             simp only [Act.put, List.getElem_toArray, List.getElem_cons_succ, List.getElem_cons_zero, List.setIfInBounds_toArray, List.set_cons_succ, List.set_cons_zero]
             clear hK
             refine wpAnyH_one (k := 4) (fuel := 2) (by kernel_rfl) rfl (by kernel_rfl) (fun K_ hK => ?_)
             refine wp_append_sec _ _ rfl g8 _ p rfl (.inl hO1) ⟨w0.heap.size + 1, 0, none⟩ q 32 (by rw [hq]; rfl) (row_news R1s) (by omega) (by simp [hp, hq]) sz8 (fun v2 wK hO2 hgr => ?_)
             replace R0s := (hgr.block (w0.heap.size) (lt_of_row R0s) (fun e => by have := (hO1.lt (w0.heap.size) e.symm).1; omega)).trans R0s
             replace R1s := (hgr.block (w0.heap.size + 1) (lt_of_row R1s) (fun e => by have := (hO1.lt (w0.heap.size + 1) e.symm).1; omega)).trans R1s
             replace R2s := (hgr.block (w0.heap.size + 1 + 1) (lt_of_row R2s) (fun e => by have := (hO1.lt (w0.heap.size + 1 + 1) e.symm).1; omega)).trans R2s
             replace R5 := (hgr.block (g7) (lt_of_row R5) (fun e => by have := (hO1.lt (g7) e.symm).1; omega)).trans R5
             have szg := hgr.size
             replace hwB := hwB.grown hgr (by omega) (fun z e => by have := (hO1.lt z e).1; omega)
             replace sz8 : g8 ≤ wK.heap.size := by omega
             clear hgr szg hO1
             refine hK _ _ trivial ?_
             simp only [Act.put, List.getElem_toArray, List.getElem_cons_succ, List.getElem_cons_zero, List.setIfInBounds_toArray, List.set_cons_succ, List.set_cons_zero]
             clear hK
             refine wpAnyH_take (i := 5) (v := ?v40) rfl (by kernel_rfl) (by kernel_rfl) (by kernel_rfl) (fun _ _ _ h => h) (Or.inl ⟨by rfl, ?y40⟩) trivial ?r40
             case y40 =>
               intro w_ hS_
               go_simp
               try with_reducible rfl
             simp only [Act.put, List.getElem_toArray, List.getElem_cons_succ, List.getElem_cons_zero, List.setIfInBounds_toArray, List.set_cons_succ, List.set_cons_zero]
             refine wpAnyH_one (k := 6) (fuel := 0) (by kernel_rfl) rfl (by kernel_rfl) (fun K_ hK => ?_)
             have hone := own_oneI hO2
             refine wp_store_cellR 28 _ _ rfl g7 96 v2 rfl rfl 30 (scr P0 P1 P2 (.slice none 0 0)) (scr P0 P1 P2 v2) R5 (by rw [scr_size _ _ _ _ l0 l32 l64]; omega) (sc_put _ _ _ _ _ l0 l32 l64) (by kernel_rfl) hone ?_
             replace R2s := (setRow_other wK g7 (w0.heap.size + 1 + 1) (scr P0 P1 P2 v2) (by omega)).trans R2s
             replace hO2 : OwnI (wK.setRow g7 (scr P0 P1 P2 v2)) g8 v2 (p ++ q) := hO2.move (fun z o e hz => (setRow_other wK g7 z _ (by have := hO2.lt z e; omega)).trans hz)
             replace R5 := setRow_heap wK g7 _ (scr P0 P1 P2 v2) _ _ R5
             replace hwB := below_setRow hwB (show w0.heap.size ≤ g7 by omega) (scr P0 P1 P2 v2)
             refine hK _ _ trivial ?_
             simp only [Act.put]
             clear hK
             generalize wK.setRow g7 (scr P0 P1 P2 v2) = wH at *
             refine wpAnyH_done (by kernel_rfl) ?_ _
             refine NoPanic.normal ?_
             have R8 := setRow_heap wH (w0.heap.size + 1 + 1) _ (scr P0 P1 P2 v2) _ _ R2s
             have hw8 := below_setRow hwB (show w0.heap.size ≤ w0.heap.size + 1 + 1 by omega) (scr P0 P1 P2 v2)
             have hO8 : OwnI (wH.setRow (w0.heap.size + 1 + 1) (scr P0 P1 P2 v2)) w0.heap.size v2 (p ++ q) := (hO2.move (fun z o e hz => (setRow_other wH (w0.heap.size + 1 + 1) z _ (by have := hO2.lt z e; omega)).trans hz)).down (by omega)
             go_wp2_with (first | (refine wpList_load_want rfl 30 _ rfl g7 rfl 30 (scr P0 P1 P2 v2) (0, 0) _ R5 Tryz.underlying30 rfl (info_scr _ _ _ _ l0 l32 l64) ?_) | (refine wpList_store_row rfl 30 _ _ rfl (w0.heap.size + 1 + 1) (scr P0 P1 P2 v2) rfl rfl 30 _ R2s (info_scr _ _ _ _ l0 l32 l64) (fit_scr _ _ _ _ zn zn zn _ _ _ _ l0 l32 l64) (scr_one _ _ _ _ hone) ?_) | fail)
             exact bodyPost_ret (Lo.results_row_slot Tryz.results16 _ _ (w0.heap.size + 1 + 1) _ _ _ _ _ rfl R8 rfl Tryz.underlying30 rfl (info_scr _ _ _ _ l0 l32 l64)) rfl ⟨.inr ⟨hf0.out, v2, by rw [hks.out, hR0.out, hP0.out, hP1.out, hP2.out]; rfl, hO8⟩, hw8⟩
end Go.Proofs.YtgbkbcgjagcgbaaGreatDoor
