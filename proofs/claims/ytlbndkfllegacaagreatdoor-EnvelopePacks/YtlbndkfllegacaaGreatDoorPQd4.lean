import Derived.Test.YtlbndkfllegacaaGreatDoorProg
import Derived.WalkKit
import Derived.WalkSpells
import Derived.WalkLawsBesides
import Derived.Lib.QuietBelow
import Derived.BigQuiet
import Derived.Test.YtlbndkfllegacaaGreatDoorPOpen
import Derived.Test.YtlbndkfllegacaaGreatDoorPQa1
import Derived.Laws.BytesArg
import Derived.Deep.Slices
import Derived.Deep.Cut
import Derived.OwnWalk
import Derived.Lib.SlBytesConst
import Derived.Laws.BitsAllLaws
import Derived.WalkMore
import Derived.Test.YtlbndkfllegacaaGreatDoorPQc0
namespace Go.Proofs.YtlbndkfllegacaaGreatDoor
set_option maxRecDepth 100000
open Go Go.RowKit Go.Sort
attribute [local go_sem] setCell_drewN alloc_drewN
theorem make_i64 (n : Nat) (h : n ≤ 281474976710656) (W : World) : (Instr.makeSlice 22 (.int .i64 (n : Int)) (.int .i64 (n : Int))).run Tryz.prog W = .ok (.slice (some ⟨W.heap.size, 0, none⟩) n n) (W.alloc (.cells (irow .u8 (zr n)) 5)) := by
 rw [← made_irow]
 exact run_make_row' 22 5 (.int .u8 0) 1 Tryz.underlying22 (by kernel_rfl) rfl .i64 .i64 n (by omega) (by omega) W
theorem getD_append_lt (a b : List Int) (j : Nat) (h : j < a.length) : (a ++ b).getD j 0 = a.getD j 0 := by
 rw [List.getD_eq_getElem?_getD, List.getD_eq_getElem?_getD, List.getElem?_append_left h]
theorem cell_of10 {W : World} {g : Nat} {cs : Array Value} {t : TypeId} (hg : W.heap[g]? = some (.cells cs t (0, 0))) {j : Nat} {v : Value} (h : cs[j]? = some v) : W.cell? ⟨g, j, none⟩ = some v := by
 rw [cell_of_row _ _ _ _ _ _ hg]; exact h
theorem elem810 : Tryz.prog.underlying 22 = some (.slice (Tryz.prog.elem 22)) := by kernel_rfl
theorem size810 (W : World) : (sizeOf (Tryz.prog.elem 22)).run Tryz.prog W = .ok 1 W := by kernel_rfl
def BysM (W : World) (v : Value) (bs : List Int) : Prop := Bys W v bs ∧ bs.length ≤ 211106232532992 ∧ (∀ a l c, v = .slice a l c → a = none → c = 0)
theorem BysM.keep {W W' : World} {v : Value} {bs : List Int} (h : BysM W v bs) (hb : Below W.heap.size W W') : BysM W' v bs := ⟨h.1.keep hb, h.2⟩
theorem Bys.of_prefix {W : World} {g : Nat} {l m : List Int} {t : TypeId} (hg : W.heap[g]? = some (.cells (irow .u8 (l ++ m)) t (0, 0))) (hl : l.length ≤ 9223372036854775807) (hz : ∀ z ∈ l, 0 ≤ z ∧ z < 256) (cap : Nat) : Bys W (.slice (some ⟨g, 0, none⟩) l.length cap) l := by
 refine ⟨_, cap, rfl, hl, fun j hj => ⟨g, 0, rfl, lt_of_row hg, ?_⟩, hz⟩
 rw [Nat.zero_add, irow_cell hg (by rw [List.length_append]; omega), getD_append_lt _ _ _ hj]
theorem Bys.grown {W W' : World} {v : Value} {bs : List Int} {g : Nat} (h : Bys W v bs) (hb : W.grownBy W' (some g)) (hne : ∀ a l c, v = .slice (some a) l c → 0 < l → a.block ≠ g) : Bys W' v bs := by
 obtain ⟨ao, cap, rfl, hl, hc, hz⟩ := h
 refine ⟨ao, cap, rfl, hl, fun j hj => ?_, hz⟩
 obtain ⟨b, off, rfl, h1, h2⟩ := hc j hj
 have hn : b ≠ g := hne ⟨b, off, none⟩ _ _ rfl (by omega)
 exact ⟨b, off, rfl, Nat.lt_of_lt_of_le h1 hb.size, hb.cell h2 (by intro e; injection e with e; exact hn e)⟩
theorem bys_bd {W : World} {v : Value} {bs : List Int} (h : Bys W v bs) : ∀ z ∈ bs, 0 ≤ z ∧ z < 256 := by
 obtain ⟨_, _, _, _, _, h⟩ := h; exact h
def NB (W : World) (v : Value) (bs : List Int) : Prop := Bys W v bs ∧ (∀ a l c, v = .slice a l c → a = none → c = 0)
theorem NB.keep {W W' : World} {v : Value} {bs : List Int} (h : NB W v bs) (hb : Below W.heap.size W W') : NB W' v bs := ⟨h.1.keep hb, h.2⟩
theorem NB.grown {W W' : World} {v : Value} {bs : List Int} {row : Option Nat} (h : NB W v bs) (hb : W.grownBy W' row) (hne : ∀ a l c, v = .slice (some a) l c → 0 < l → row ≠ some a.block) : NB W' v bs := by
 obtain ⟨⟨ao, cap, rfl, hl, hc, hz⟩, hn⟩ := h
 refine ⟨⟨ao, cap, rfl, hl, fun j hj => ?_, hz⟩, hn⟩
 obtain ⟨b, off, rfl, h1, h2⟩ := hc j hj
 have hn' := hne ⟨b, off, none⟩ _ _ rfl (by omega)
 exact ⟨b, off, rfl, Nat.lt_of_lt_of_le h1 hb.size, hb.cell h2 (by intro e; exact hn' e.symm)⟩
theorem slice_to (ao : Option Addr) (len cap n : Nat) (h : n ≤ cap) (W : World) : (Instr.sliceAt 22 (.slice ao len cap) none (some (.int .i64 (n : Int))) none).run Tryz.prog W = .ok (.slice ao n cap) W := by
 rw [run_sliceAt_slice _ _ _ _ _ _ elem810, run_slice_h W 22 ao len cap elem810 .i64 _ (by omega) (by omega), size810]
 show Result.ok (sliced _ _ _ _ 1) W = _
 rw [Int.toNat_natCast, sliced, Nat.zero_mul]
 by_cases e : cap = 0
 · rw [if_pos e]; rfl
 · rw [if_neg e]
   cases ao <;> rfl
theorem Bys.take {W : World} {ao : Option Addr} {cap n : Nat} {bs : List Int} (h : Bys W (.slice ao bs.length cap) bs) (hn : n ≤ bs.length) : Bys W (.slice ao n cap) (bs.take n) := by
 obtain ⟨ao', cap', e, hl, hc, hz⟩ := h
 cases e
 have hln : (bs.take n).length = n := by rw [List.length_take]; omega
 refine ⟨ao, cap, by rw [hln], by omega, fun j hj => ?_, fun z h => hz z (List.mem_of_mem_take h)⟩
 obtain ⟨b, off, e, h1, h2⟩ := hc j (by omega)
 refine ⟨b, off, e, h1, ?_⟩
 rw [h2, List.getD_eq_getElem?_getD, List.getD_eq_getElem?_getD, List.getElem?_take_of_lt (by omega)]
def mk4 (k : Nat) : List Int := (List.range k).map fun (i : Nat) => 100 + (i : Int)
theorem mk4_len (k : Nat) : (mk4 k).length = k := by simp [mk4]
theorem mk4_get (k i : Nat) (h : i < k) : (mk4 k).getD i 0 = 100 + (i : Int) := by
 simp [mk4, List.getD_eq_getElem?_getD, List.getElem?_map, List.getElem?_range h]
def mz (k : Nat) : List Int := mk4 k ++ zr (80 - k)
theorem mz_len (k : Nat) (h : k ≤ 80) : (mz k).length = 80 := by simp [mz, mk4_len, zr_len]; omega
theorem mz_set (k : Nat) (h : k < 80) : (mz k).set k (100 + (k : Int)) = mz (k + 1) := by
 have e1 : zr (80 - k) = 0 :: zr (80 - (k + 1)) := by
   rw [show 80 - k = (80 - (k + 1)) + 1 by omega]; rfl
 have e2 : mk4 (k + 1) = mk4 k ++ [100 + (k : Int)] := by simp [mk4, List.range_succ]
 rw [mz, mz, e1, e2, List.set_append_right _ _ (by rw [mk4_len]; exact Nat.le_refl _), mk4_len, Nat.sub_self, List.set_cons_zero, List.append_assoc]
 rfl
theorem bmz_set (bs : List Int) (k : Nat) (h : k < 80) : (bs ++ mz k).set (bs.length + k) (100 + (k : Int)) = bs ++ mz (k + 1) := by
 rw [List.set_append_right _ _ (by omega), Nat.add_sub_cancel_left, mz_set k h]
theorem make_len (n : Nat) (hn : n ≤ 140737488355328) (w : World) : (Instr.makeSlice 22 (.int .i64 (n : Int)) (.int .i64 (n : Int))).run Tryz.prog w = .ok (.slice (some ⟨w.heap.size, 0, none⟩) n n) (w.alloc (.cells (irow .u8 (zr n)) 5)) := make_i64 n (by omega) w
theorem conv_bys10 {W : World} {v : Value} {bs : List Int} (h : Bys W v bs) : (convert 22 9 v).run Tryz.prog W = .ok (.string (strOfNums bs)) W := by
 obtain ⟨ao, cap, rfl, _, hc, _⟩ := h
 cases ao with
 | none =>
   have : bs = [] := by
     cases bs with
     | nil => rfl
     | cons x xs => obtain ⟨b, off, e, _⟩ := hc 0 (by simp); cases e
   subst this
   exact run_convert_bytes_nil W 22 5 Tryz.underlying22 Tryz.underlying5 _ _ 9 Tryz.underlying9
 | some ad =>
   rcases Nat.eq_zero_or_pos bs.length with e0 | e0
   · have : bs = [] := List.eq_nil_of_length_eq_zero e0
     subst this
     obtain ⟨b, off, sp⟩ := ad
     rw [run_convert_bytes_string W 22 9 5 _ _ _ Tryz.underlying22 Tryz.underlying5 Tryz.underlying9]
     have := run_bytesToString (P := Tryz.prog) W ⟨b, off, sp⟩ 0 cap [] (by rfl)
     exact this
   · obtain ⟨b, off, e, _⟩ := hc 0 e0
     cases e
     exact run_convert_bytes_arg W 22 5 Tryz.underlying22 Tryz.underlying5 b off bs.length cap bs rfl (fun i hi => by
       obtain ⟨b', off', e, _, h⟩ := hc i hi
       cases e
       exact h) 9 Tryz.underlying9
theorem str_inj10 {a b : List Int} (ha : ∀ z ∈ a, 0 ≤ z ∧ z < 256) (hb : ∀ z ∈ b, 0 ≤ z ∧ z < 256) (h : strOfNums a = strOfNums b) : a = b := by
 have h1 := congrArg (fun x => x.data.toList) h
 simp only [strOfNums_data] at h1
 have key : ∀ (a b : List Int), (∀ z ∈ a, 0 ≤ z ∧ z < 256) → (∀ z ∈ b, 0 ≤ z ∧ z < 256) → a.map (fun n => UInt8.ofNat n.toNat) = b.map (fun n => UInt8.ofNat n.toNat) → a = b := by
   intro a
   induction a with
   | nil => intro b _ _ h; cases b with
     | nil => rfl
     | cons y ys => simp at h
   | cons x xs ih => intro b ha hb h; cases b with
     | nil => simp at h
     | cons y ys =>
       simp only [List.map_cons, List.cons.injEq] at h
       have hx := ha x (by simp)
       have hy := hb y (by simp)
       have e := congrArg UInt8.toNat h.1
       simp only [UInt8.toNat_ofNat'] at e
       rw [Nat.mod_eq_of_lt (by omega), Nat.mod_eq_of_lt (by omega)] at e
       have exy : x = y := by omega
       rw [exy, ih ys (fun z h => ha z (by simp [h])) (fun z h => hb z (by simp [h])) h.2]
 exact key a b ha hb h1
theorem str_dec10 {a b : List Int} (ha : ∀ z ∈ a, 0 ≤ z ∧ z < 256) (hb : ∀ z ∈ b, 0 ≤ z ∧ z < 256) : ((strOfNums a).toList == (strOfNums b).toList) = decide (a = b) := by
 by_cases h : a = b
 · subst h; simp
 · rw [decide_eq_false h, beq_eq_false_iff_ne]
   intro e
   rw [ByteArray.toList_eq, ByteArray.toList_eq] at e
   exact h (str_inj10 ha hb (Go.WideShapes.bytes_inj e))
set_option maxRecDepth 100000 in
set_option maxHeartbeats 4000000 in
theorem s_same (a b : List Int) (w : World) (u v : Value) (hu : Bys w u a) (hv : Bys w v b) : Calls Tryz.prog 20 #[u, v] w fun e w' => e = .returned (.bool (decide (a = b))) ∧ Below w.heap.size w w' := by
 have c1 := conv_bys10 hu
 have c2 := conv_bys10 hv
 obtain ⟨ao, cap, rfl, _, _, hza⟩ := hu
 obtain ⟨bo, bcap, rfl, _, _, hzb⟩ := hv
 go_enter Tryz.func20, Tryz.ntmps20
 have hd := str_dec10 hza hzb
 go_wp2
 go_ret
 exact ⟨rfl, Below.refl _ _⟩
set_option maxRecDepth 100000 in
set_option maxHeartbeats 4000000 in
theorem s_hand (bs : List Int) (w : World) (v : Value) (hB : Bys w v bs) (hl : bs.length ≤ 140737488355200) : Calls Tryz.prog 9 #[v] w fun e w' => e = .returned (.slice (some ⟨w.heap.size, 0, none⟩) (bs.length + 80) (bs.length + 80)) ∧ w'.heap[w.heap.size]? = some (.cells (irow .u8 (bs ++ mk4 80)) 5 (0, 0)) ∧ Below w.heap.size w w' := by
 have hmk := make_len (bs.length + 80) (by omega) w
 rw [show ((bs.length + 80 : Nat) : Int) = (bs.length : Int) + 80 by omega] at hmk
 have r0 := hp1_0 w (.cells (irow .u8 (zr (bs.length + 80))) 5)
 have hw : Below w.heap.size w (w.alloc (.cells (irow .u8 (zr (bs.length + 80))) 5)) := (Below.refl _ _).alloc (Nat.le_refl _) _
 have hcp := copy_bys (o := 0) (dLen := bs.length + 80) (dCap := bs.length + 80) r0 (hB.keep hw) (by omega) (by rw [zr_len]; omega)
 have ez : (zr (bs.length + 80)).take 0 ++ bs ++ (zr (bs.length + 80)).drop (0 + bs.length) = bs ++ mz 0 := by
   rw [List.take_zero, List.nil_append, zr_drop, Nat.zero_add, Nat.add_sub_cancel_left]; rfl
 rw [ez] at hcp
 have hgo : goInt bs.length = .int .i64 (bs.length : Int) := rfl
 rw [hgo] at hcp
 have r1 := setRow_heap _ (w.heap.size) _ (irow .u8 (bs ++ mz 0)) _ _ r0
 replace hw := below_setRow hw (Nat.le_refl _) (irow .u8 (bs ++ mz 0))
 obtain ⟨ao, cap, rfl, _⟩ := id hB
 go_enter Tryz.func9, Tryz.ntmps9
 go_wp2
 generalize (w.alloc (.cells (irow .u8 (zr (bs.length + 80))) 5)).setRow w.heap.size (irow .u8 (bs ++ mz 0)) = w1 at *
 clear hcp ez hgo hmk r0
 go_loopw [4] (fun i wr => ∃ k : Nat, k ≤ 80 ∧ i = .int .i64 k ∧ wr.heap[w.heap.size]? = some (.cells (irow .u8 (bs ++ mz k)) 5 (0, 0)) ∧ Below w.heap.size w wr) (fun i _ => 80 - (intOf i).toNat)
 case atStart => exact ⟨0, by omega, rfl, r1, hw⟩
 case round =>
   clear r1 hw
   obtain ⟨k, hk, rfl, r1, hw⟩ := hrel
   by_cases hlt : k < 80
   · have hd : decide ((k : Int) < 80) = true := by simp; omega
     have hmod : (100 + (k : Int)) % 256 = 100 + (k : Int) := by omega
     have hml := mz_len k (by omega)
     have cf := row_frozen r1 (bs.length + k)
     have cc := irow_cell r1 (j := bs.length + k) (by rw [List.length_append]; omega)
     have r2 := irow_set r1 (bs.length + k) (100 + (k : Int))
     rw [bmz_set bs k hlt] at r2
     have hw2 := hw.setCell (show w.heap.size ≤ (⟨w.heap.size, bs.length + k, none⟩ : Addr).block from Nat.le_refl _) (.int .u8 (100 + (k : Int)))
     clear r1 hw hml
     generalize (bs ++ mz k).getD (bs.length + k) 0 = z at *
     go_wp2
     refine ⟨⟨k + 1, by omega, by go_num, r2, hw2⟩, ?_⟩
     simp [intOf]; omega
   · obtain rfl : k = 80 := by omega
     have hd : decide ((80 : Int) < 80) = false := by decide
     have e80 : bs ++ mz 80 = bs ++ mk4 80 := by rw [mz, Nat.sub_self]; simp [zr]
     rw [e80] at r1
     go_wp2
     go_ret
     exact ⟨rfl, r1, hw⟩
set_option maxRecDepth 100000 in
set_option maxHeartbeats 4000000 in
theorem s_left (bs : List Int) (g : Nat) (w : World) (v : Value) (hB : Bys w v bs) (hl : bs.length ≤ 140737488355200) (rg : w.heap[g]? = some (.cells (irow .u8 (bs ++ mk4 80)) 5 (0, 0))) : Calls Tryz.prog 13 #[.slice (some ⟨g, 0, none⟩) (bs.length + 80) (bs.length + 80), v] w fun e w' => e = .returned (.bool true) ∧ Below w.heap.size w w' := by
 have hml := mk4_len 80
 have sl := slice_to (some ⟨g, 0, none⟩) (bs.length + 80) (bs.length + 80) bs.length (by omega)
 have hBl := Bys.of_prefix rg (by omega) (bys_bd hB) (bs.length + 80)
 have cS := s_same bs bs w _ _ hBl hB
 rw [decide_eq_true rfl] at cS
 replace cS := cS
 obtain ⟨ao, cap, rfl, _⟩ := id hB
 go_enter Tryz.func13, Tryz.ntmps13
 go_wp2
 go_loopw [5] (fun i wr => ∃ k : Nat, k ≤ 80 ∧ i = .int .i64 k ∧ wr = w) (fun i _ => 80 - (intOf i).toNat)
 case atStart => exact ⟨0, by omega, rfl, rfl⟩
 case round =>
   obtain ⟨k, hk, rfl, rfl⟩ := hrel
   by_cases hlt : k < 80
   · have hd : decide ((k : Int) < 80) = true := by simp; omega
     have hmod : (100 + (k : Int)) % 256 = 100 + (k : Int) := by omega
     have cc := irow_cell rg (j := bs.length + k) (by rw [List.length_append]; omega)
     have eg : (bs ++ mk4 80).getD (bs.length + k) 0 = 100 + (k : Int) := by
       rw [List.getD_eq_getElem?_getD, List.getElem?_append_right (by omega), Nat.add_sub_cancel_left, ← List.getD_eq_getElem?_getD, mk4_get 80 k hlt]
     rw [eg] at cc
     clear cS hBl hB rg eg
     go_wp2
     refine ⟨⟨k + 1, by omega, by go_num, trivial⟩, ?_⟩
     simp [intOf]; omega
   · obtain rfl : k = 80 := by omega
     have hd : decide ((80 : Int) < 80) = false := by decide
     go_wp2_with (fail)
     refine cS.mono ?_
     rintro e_ w1 ⟨rfl, hb⟩
     go_wp2
     go_ret
     exact ⟨rfl, hb⟩
theorem wpList_append_cases {P : Program} (w : World) {ops : Array Oper} {rest : List Oper} {o : Oper} {a : Act} {Q : Exit → Act → World → Prop} (hgd : o.guard = none) (s x : Operand) (t : TypeId)
   (ho : o.op = .call { callee := .builtin .append, args := #[s, x], argTypes := #[t, t] })
   (base : Nat) (e : TypeId) (i : TypeInfo) (z : Value) (ht : P.underlying t = some (.slice e)) (hi : P.info? e = some i) (hz : i.zero = some z)
   (hsize : i.size = 1) (hby : i.bytes = 1) (hzs : z.cells.size = 1)
   (g n cap : Nat) (xs : List Value) (hs : a.eval s = .slice (some ⟨g, 0, none⟩) n cap) (hown : w.ownsRow base e 1 (.slice (some ⟨g, 0, none⟩) n cap) n xs)
   (ad : Addr) (m c : Nat) (news : List Value) (hx : a.eval x = .slice (some ad) m c) (hl : news.length = m * 1) (hnews : ∀ j u, news[j]? = some u → w.cell? (ad.add j) = some u) (h1 : ∀ u ∈ news, u.oneCell' = true)
   (h63 : n + m ≤ maxLen) (hbytes : (n + m) * 1 ≤ 140737488355328) (hbase : base ≤ w.heap.size)
   (hA : ∀ w', w'.ownsRow base e 1 (.slice (some ⟨g, 0, none⟩) (n + m) cap) (n + m) (xs ++ news) → w.grownBy w' (some g) → wpList P ops Q rest (a.put o.dst (.slice (some ⟨g, 0, none⟩) (n + m) cap)) w')
   (hB : ∀ v' w', w'.ownsRow w.heap.size e 1 v' (n + m) (xs ++ news) → w.grownBy w' none → wpList P ops Q rest (a.put o.dst v') w') : wpList P ops Q (o :: rest) a w := by
 refine wpList_plain hgd fun K hK => ?_
 obtain ⟨v', w', hr, h2, h3, _⟩ := run_append_own (P := P) w base t o.type e i z 1 1 ht hi hz hsize hby hzs (by decide) _ n xs hown ad m c news hl hnews h1 h63 hbytes hbase
 have holds : ∀ j u, xs[j]? = some u → w.cell? ((⟨g, 0, none⟩ : Addr).add j) = some u := hown.cells (g := g) rfl
 rcases hown.2 with ⟨hv, _⟩ | ⟨g1, cap1, cur, hv, hbg, hg, hnc, hcm, hcs, htake⟩
 · cases hv
 · cases hv
   by_cases hroom : n + m ≤ cap
   · have hr2 := run_append_room (P := P) w t o.type e i ht hi g n cap cur hg ad m c news (by rw [hsize]; exact hl) hnews h1 hroom (by rw [hsize, hl, hcs]; omega)
     have hh := hr.symm.trans hr2
     injection hh with e1 e2
     subst e1
     unfold Oper.wp execOp
     simp only [ho, resolve, invoke, builtin, Sem.run_bind, Sem.run_pure, Result.andThen_ok, List.map_toArray, List.map_cons, List.map_nil, hs, hx, hr]
     exact hK _ _ (hA w' h2 h3)
   · have hr2 := run_append_grow (P := P) w t o.type e i z ht hi hz ⟨g, 0, none⟩ n cap xs (by rw [hsize]; exact hown.1) holds ad m c news (by rw [hsize]; exact hl) hnews (by omega) (by simp only [maxLen] at h63; omega) (growslice_fits (by omega) (by rw [hby]; exact hbytes))
     have hh := hr.symm.trans hr2
     injection hh with e1 e2
     have hown2 : w'.ownsRow w.heap.size e 1 v' (n + m) (xs ++ news) := by
       obtain ⟨q1, ⟨hv, _⟩ | ⟨g1, cap1, cur, hv, hbg, hq⟩⟩ := h2
       · rw [e1] at hv; cases hv
       · have hv' := e1.symm.trans hv
         cases hv'
         exact ⟨q1, .inr ⟨w.heap.size, _, cur, hv, Nat.le_refl _, hq⟩⟩
     have hgr : w.grownBy w' none := by
       rw [e2]
       have hq := World.grownBy_alloc w.drew (.cells (xs.toArray ++ news.toArray ++ Builtin.zeroCells z.cells (grownCap w (n + m) cap e - (n + m))) e) none
       exact ⟨hq.os, hq.tape, hq.output, hq.size, hq.block⟩
     unfold Oper.wp execOp
     simp only [ho, resolve, invoke, builtin, Sem.run_bind, Sem.run_pure, Result.andThen_ok, List.map_toArray, List.map_cons, List.map_nil, hs, hx, hr]
     exact hK _ _ (hB v' w' hown2 hgr)
theorem or_lower {W : World} {b c n : Nat} {e : TypeId} {v : Value} {ys : List Value} (h : W.ownsRow b e 1 v n ys) (hc : c ≤ b) : W.ownsRow c e 1 v n ys := by
 obtain ⟨q1, q2 | ⟨g1, cap1, cur, hv, hbg, hq⟩⟩ := h
 · exact ⟨q1, .inl q2⟩
 · exact ⟨q1, .inr ⟨g1, cap1, cur, hv, Nat.le_trans hc hbg, hq⟩⟩
theorem or_cell {W : World} {b g m c t : Nat} {e : TypeId} {l : List Int} (h : W.ownsRow b e 1 (.slice (some ⟨g, 0, none⟩) m c) m (l.map (Value.int .u8))) (ht : t < m) : W.cell? ⟨g, t, none⟩ = some (.int .u8 (l.getD t 0)) ∧ W.frozen? ⟨g, t, none⟩ = false := by
 obtain ⟨q1, ⟨hv, _⟩ | ⟨g1, cap1, cur, hv, hbg, hg, hnc, hcm, hcs, htake⟩⟩ := h
 · cases hv
 · cases hv
   rw [List.length_map] at q1
   refine ⟨?_, row_frozen hg t⟩
   rw [cell_of_row _ _ _ _ _ _ hg]
   have h1 : (cur.toList.take (m * 1))[t]? = (l.map (Value.int .u8))[t]? := by rw [htake]
   rw [List.getElem?_take_of_lt (by omega), List.getElem?_map, List.getElem?_eq_getElem (show t < l.length by omega)] at h1
   rw [← Array.getElem?_toList, h1, List.getD_eq_getElem?_getD, List.getElem?_eq_getElem (show t < l.length by omega)]
   rfl
theorem or_set {W : World} {b g m c t : Nat} {e : TypeId} {l : List Int} {z : Int} (h : W.ownsRow b e 1 (.slice (some ⟨g, 0, none⟩) m c) m (l.map (Value.int .u8))) : (W.setCell ⟨g, t, none⟩ (.int .u8 z)).ownsRow b e 1 (.slice (some ⟨g, 0, none⟩) m c) m ((l.set t z).map (Value.int .u8)) ∨ m ≤ t := by
 by_cases ht : m ≤ t
 · exact .inr ht
 refine .inl ?_
 obtain ⟨q1, ⟨hv, _⟩ | ⟨g1, cap1, cur, hv, hbg, hg, hnc, hcm, hcs, htake⟩⟩ := h
 · cases hv
 · cases hv
   refine ⟨by rw [List.length_map, List.length_set]; rw [List.length_map] at q1; exact q1, .inr ⟨g, c, cur.setIfInBounds t (.int .u8 z), rfl, hbg, heap_setCell_same W g t cur _ (.int .u8 z) hg, hnc, hcm, by rw [Array.size_setIfInBounds]; exact hcs, ?_⟩⟩
   rw [Array.toList_setIfInBounds, List.take_set, htake, List.map_set]
theorem or_prefix {W : World} {b g m j c : Nat} {e : TypeId} {xs ys : List Value} (h : W.ownsRow b e 1 (.slice (some ⟨g, 0, none⟩) (m + j) c) (m + j) (xs ++ ys)) (hl : xs.length = m) : W.ownsRow b e 1 (.slice (some ⟨g, 0, none⟩) m c) m xs := by
 obtain ⟨q1, ⟨hv, _⟩ | ⟨g1, cap1, cur, hv, hbg, hg, hnc, hcm, hcs, htake⟩⟩ := h
 · cases hv
 · cases hv
   refine ⟨by omega, .inr ⟨g, c, cur, rfl, hbg, hg, by omega, hcm, hcs, ?_⟩⟩
   have h2 := congrArg (List.take m) htake
   rw [List.take_take, List.take_left' hl] at h2
   rw [← h2]
   congr 1
   omega
theorem or_move {W V : World} {b g m c : Nat} {e : TypeId} {xs : List Value} {ob : Option Nat} (h : W.ownsRow b e 1 (.slice (some ⟨g, 0, none⟩) m c) m xs) (hg : W.grownBy V ob) (hx : ob ≠ some g) : V.ownsRow b e 1 (.slice (some ⟨g, 0, none⟩) m c) m xs := by
 obtain ⟨q1, ⟨hv, _⟩ | ⟨g1, cap1, cur, hv, hbg, hr, hq⟩⟩ := h
 · cases hv
 · cases hv
   exact ⟨q1, .inr ⟨g, c, cur, rfl, hbg, (hg.block g (lt_of_row hr) (fun e => hx e.symm)).trans hr, hq⟩⟩
theorem or_high {W : World} {b g m c : Nat} {e : TypeId} {xs : List Value} (h : W.ownsRow b e 1 (.slice (some ⟨g, 0, none⟩) m c) m xs) : g < W.heap.size ∧ b ≤ g := by
 obtain ⟨q1, ⟨hv, _⟩ | ⟨g1, cap1, cur, hv, hbg, hr, hq⟩⟩ := h
 · cases hv
 · cases hv
   exact ⟨lt_of_row hr, hbg⟩
theorem or_other {W : World} {b g g' m c t : Nat} {e : TypeId} {xs : List Value} {v : Value} (h : W.ownsRow b e 1 (.slice (some ⟨g, 0, none⟩) m c) m xs) (hx : g ≠ g') : (W.setCell ⟨g', t, none⟩ v).ownsRow b e 1 (.slice (some ⟨g, 0, none⟩) m c) m xs := by
 obtain ⟨q1, ⟨hv, _⟩ | ⟨g1, cap1, cur, hv, hbg, hr, hq⟩⟩ := h
 · cases hv
 · cases hv
   exact ⟨q1, .inr ⟨g, c, cur, rfl, hbg, heap_other hr hx, hq⟩⟩
def apV (x : Option Nat × Nat × Nat) : Value := match x.1 with
 | some g => .slice (some ⟨g, 0, none⟩) x.2.1 x.2.2
 | none => .slice none 0 0
def apN (x : Option Nat × Nat × Nat) : Nat := match x.1 with
 | some _ => x.2.1
 | none => 0
def apC (x : Option Nat × Nat × Nat) : Nat := match x.1 with
 | some _ => x.2.2
 | none => 0
def apA (x : Option Nat × Nat × Nat) : Option Addr := x.1.map fun g => ⟨g, 0, none⟩
theorem apV_eq (x : Option Nat × Nat × Nat) : apV x = .slice (apA x) (apN x) (apC x) := by
 obtain ⟨_ | g, m, c⟩ := x <;> rfl
def ApR (lo : Nat) (W : World) (xs : List (Option Nat × Nat × Nat)) (P : Nat → List Int → Prop) : Prop := ∀ (j g m c : Nat), xs[j]? = some (some g, m, c) → ∃ l : List Int, l.length = m ∧ W.ownsRow lo 5 1 (.slice (some ⟨g, 0, none⟩) m c) m (l.map (Value.int .u8)) ∧ P j l
def ApD (xs : List (Option Nat × Nat × Nat)) : Prop := ∀ (i j : Nat) (g m n c d : Nat), xs[i]? = some (some g, m, c) → xs[j]? = some (some g, n, d) → i = j
theorem ApR.mono {lo : Nat} {W : World} {xs : List (Option Nat × Nat × Nat)} {P Q : Nat → List Int → Prop} (h : ApR lo W xs P) (hq : ∀ (j : Nat) l g m c, xs[j]? = some (some g, m, c) → l.length = m → P j l → Q j l) : ApR lo W xs Q := fun j g m c hj => by
 obtain ⟨l, h1, h2, h3⟩ := h j g m c hj
 exact ⟨l, h1, h2, hq _ _ _ _ _ hj h1 h3⟩
theorem ApR.moved {lo : Nat} {W W' : World} {xs : List (Option Nat × Nat × Nat)} {P : Nat → List Int → Prop} {ob : Option Nat} (h : ApR lo W xs P) (hb : W.grownBy W' ob) (hx : ∀ (j g m c : Nat), xs[j]? = some (some g, m, c) → ob ≠ some g) : ApR lo W' xs P := fun j g m c hj => by
 obtain ⟨l, h1, h2, h3⟩ := h j g m c hj
 exact ⟨l, h1, or_move h2 hb (hx j g m c hj), h3⟩
theorem ApR.put {lo : Nat} {W : World} {xs : List (Option Nat × Nat × Nat)} {P Q : Nat → List Int → Prop} (h : ApR lo W xs P) (hd : ApD xs) {k g m c t : Nat} {z : Int} (hk : xs[k]? = some (some g, m, c)) (ht : t < m) (hp : ∀ l, l.length = m → P k l → Q k (l.set t z)) (hq : ∀ j l, j ≠ k → P j l → Q j l) : ApR lo (W.setCell ⟨g, t, none⟩ (.int .u8 z)) xs Q := fun j g' m' c' hj => by
 obtain ⟨l, h1, h2, h3⟩ := h j g' m' c' hj
 by_cases e : g' = g
 · subst e
   obtain rfl := hd _ _ _ _ _ _ _ hk hj
   obtain ⟨_, rfl, rfl⟩ : True ∧ m = m' ∧ c = c' := ⟨trivial, by rw [hk] at hj; cases hj; exact ⟨rfl, rfl⟩⟩
   refine ⟨l.set t z, by rw [List.length_set]; exact h1, (or_set h2).resolve_right (by omega), hp l h1 h3⟩
 · refine ⟨l, h1, or_other h2 e, hq j l (fun ej => e ?_) h3⟩
   subst ej
   rw [hk] at hj
   cases hj
   rfl
theorem getD_set_if6 (l : List Int) (t u : Nat) (z : Int) (h : t < l.length) : (l.set t z).getD u 0 = if u = t then z else l.getD u 0 := by
 rw [List.getD_eq_getElem?_getD, List.getD_eq_getElem?_getD, List.getElem?_set]
 by_cases e : t = u
 · subst e; simp [h]
 · rw [if_neg e, if_neg (Ne.symm e)]
theorem ap_some {x : Option Nat × Nat × Nat} {t : Nat} (h : t < apN x) : ∃ g m c, x = (some g, m, c) := by
 obtain ⟨_ | g, m, c⟩ := x
 · simp [apN] at h
 · exact ⟨g, m, c, rfl⟩
theorem ap_row {W : World} {gl : Nat} {xs : List (Option Nat × Nat × Nat)} (hg : W.heap[gl]? = some (.cells (xs.map apV).toArray 22 (0, 0))) (i : Nat) (hi : i < xs.length) : W.cell? ⟨gl, i, none⟩ = some (.slice (apA (xs.getD i (none, 0, 0))) (apN (xs.getD i (none, 0, 0))) (apC (xs.getD i (none, 0, 0)))) := by
 rw [cell_of10 hg (show (xs.map apV).toArray[i]? = some (apV (xs.getD i (none, 0, 0))) by rw [List.getElem?_toArray, List.getElem?_map, List.getElem?_eq_getElem hi, List.getD_eq_getElem?_getD, List.getElem?_eq_getElem hi]; rfl), apV_eq]
set_option maxRecDepth 100000 in
set_option maxHeartbeats 4000000 in
theorem s_apart (xs : List (Option Nat × Nat × Nat)) (gl lo : Nat) (w : World) (hloW : lo ≤ w.heap.size) (hn : xs.length ≤ 50) (hg : w.heap[gl]? = some (.cells (xs.map apV).toArray 22 (0, 0))) (hr : ApR lo w xs fun _ _ => True) (hd : ApD xs) (hlo : ∀ (i : Nat) g m c, xs[i]? = some (some g, m, c) → g ≠ gl ∧ m ≤ 140737488350000) : Calls Tryz.prog 21 #[.slice (some ⟨gl, 0, none⟩) xs.length xs.length] w fun e w' => e = .returned (.bool true) ∧ Below lo w w' := by
 have lgl := lt_of_row hg
 have hrow := fun (W : World) h => ap_row (W := W) (gl := gl) (xs := xs) h
 go_enter Tryz.func21, Tryz.ntmps21
 go_wp2
 go_loopw [3] (fun i wr => ∃ k : Nat, k ≤ xs.length ∧ i = .int .i64 k ∧ ApR lo wr xs (fun j l => j < k → ∀ t, t < l.length → l.getD t 0 = 1 + (j : Int)) ∧ wr.heap[gl]? = some (.cells (xs.map apV).toArray 22 (0, 0)) ∧ Below lo w wr) (fun i _ => xs.length - (intOf i).toNat)
 case atStart => exact ⟨0, by omega, rfl, hr.mono (fun j l _ _ _ _ _ _ h => by omega), hg, Below.refl _ _⟩
 case round =>
   clear hg hr
   obtain ⟨k, hk, rfl, hr, hg, hw⟩ := hrel
   by_cases hlt : k < xs.length
   · have hdk : decide ((k : Int) < (xs.length : Int)) = true := by simp; omega
     have hmod : (1 + (k : Int)) % 256 = 1 + (k : Int) := by omega
     obtain ⟨x, hxk⟩ : ∃ x, xs[k]? = some x := ⟨_, List.getElem?_eq_getElem hlt⟩
     have hrk := fun W h => hrow W h k hlt
     rw [show xs.getD k (none, 0, 0) = x by rw [List.getD_eq_getElem?_getD, hxk]; rfl] at hrk
     replace hrk := hide hrk
     replace hrow := hide hrow
     go_wp2
     go_loopw [4] (fun i wr => ∃ t : Nat, t ≤ apN x ∧ i = .int .i64 t ∧ ApR lo wr xs (fun j l => (j < k → ∀ t, t < l.length → l.getD t 0 = 1 + (j : Int)) ∧ (j = k → ∀ u, u < t → l.getD u 0 = 1 + (j : Int))) ∧ wr.heap[gl]? = some (.cells (xs.map apV).toArray 22 (0, 0)) ∧ Below lo w wr) (fun i _ => apN x - (intOf i).toNat)
     case atStart => exact ⟨0, by omega, rfl, hr.mono (fun j l _ _ _ _ _ h => ⟨h, fun _ u hu => by omega⟩), hg, hw⟩
     case round =>
       clear hr hg hw
       obtain ⟨t, ht, rfl, hr, hg, hw⟩ := hrel
       have hcl := hrk.out _ hg
       by_cases hlt2 : t < apN x
       · have hdt : decide ((t : Int) < (apN x : Int)) = true := by simp; omega
         obtain ⟨g, m, c, rfl⟩ := ap_some hlt2
         change wr.cell? ⟨gl, k, none⟩ = some (.slice (some ⟨g, 0, none⟩) m c) at hcl
         change t < m at hlt2
         change decide ((t : Int) < (m : Int)) = true at hdt
         obtain ⟨l, hl, rl, hP⟩ := hr k g m c hxk
         obtain ⟨hgg, hmm⟩ := hlo k g m c hxk
         have hlg := (or_high rl).2
         obtain ⟨c1, c2⟩ := or_cell rl hlt2
         have hr2 : ApR lo (wr.setCell ⟨g, t, none⟩ (.int .u8 (1 + (k : Int)))) xs (fun j l => (j < k → ∀ t, t < l.length → l.getD t 0 = 1 + (j : Int)) ∧ (j = k → ∀ u, u < t + 1 → l.getD u 0 = 1 + (j : Int))) := hr.put hd hxk hlt2 (fun l hl h => ⟨fun hkk => by omega, fun _ u hu => by
           rw [getD_set_if6 l t u _ (by omega)]
           split
           · rfl
           · exact h.2 rfl u (by omega)⟩) (fun j l hj h => ⟨h.1, fun e => absurd e hj⟩)
         have hg2 : (wr.setCell ⟨g, t, none⟩ (.int .u8 (1 + (k : Int)))).heap[gl]? = _ := heap_other hg (Ne.symm hgg)
         have hw2 := hw.setCell (show lo ≤ (⟨g, t, none⟩ : Addr).block from hlg) (.int .u8 (1 + (k : Int)))
         clear hr hg hw hP rl hl
         generalize l.getD t 0 = z at *
         go_wp2
         refine ⟨⟨t + 1, by show t + 1 ≤ m; omega, by go_num, hr2, hg2, hw2⟩, ?_⟩
         simp [intOf, apN]; omega
       · obtain rfl : t = apN x := by omega
         have hdt : decide ((apN x : Int) < (apN x : Int)) = false := by simp
         have hr2 : ApR lo wr xs (fun j l => j < k + 1 → ∀ t, t < l.length → l.getD t 0 = 1 + (j : Int)) := hr.mono (fun j l g m c hj hl h hjk t ht => by
           rcases Nat.lt_or_ge j k with q | q
           · exact h.1 q t ht
           · obtain rfl : j = k := by omega
             refine h.2 rfl t ?_
             rw [hxk] at hj
             cases hj
             show t < m
             omega)
         clear hr
         go_wp2
         refine ⟨⟨k + 1, by omega, by go_num, hr2, hg, hw⟩, ?_⟩
         simp [intOf]; omega
   · obtain rfl : k = xs.length := by omega
     have hdk : decide ((xs.length : Int) < (xs.length : Int)) = false := by simp
     replace hr : ApR lo wr xs (fun j l => ∀ t, t < l.length → l.getD t 0 = 1 + (j : Int)) := hr.mono (fun j l g m c hj hl h => h (List.getElem?_eq_some_iff.1 hj).1)
     replace hrow := hide hrow
     go_wp2
     go_loopw [5, 6] (fun i _ wr => ∃ k : Nat, k ≤ xs.length ∧ i = .int .i64 k ∧ ApR lo wr xs (fun j l => ∀ t, t < l.length → l.getD t 0 = 1 + (j : Int)) ∧ wr.heap[gl]? = some (.cells (xs.map apV).toArray 22 (0, 0)) ∧ Below lo w wr) (fun i _ _ => xs.length - (intOf i).toNat)
     case atStart => exact ⟨0, by omega, rfl, hr, hg, hw⟩
     case round =>
       clear hr hg hw hdk
       obtain ⟨k, hk, rfl, hr, hg, hw⟩ := hrel
       by_cases hlt2 : k < xs.length
       · have hdk : decide ((k : Int) < (xs.length : Int)) = true := by simp; omega
         have hmod : (201 + (k : Int)) % 256 = 201 + (k : Int) := by omega
         obtain ⟨x, hxk⟩ : ∃ x, xs[k]? = some x := ⟨_, List.getElem?_eq_getElem hlt2⟩
         have hcl := hrow.out _ hg k hlt2
         rw [show xs.getD k (none, 0, 0) = x by rw [List.getD_eq_getElem?_getD, hxk]; rfl] at hcl
         obtain ⟨i0, hi, hz0, hz1, hz2⟩ := info8
         have hmN : apN x ≤ 140737488350000 := by
           obtain ⟨_ | g, m, c⟩ := x
           · exact Nat.zero_le _
           · exact (hlo k g m c hxk).2
         have hlow : lo ≤ wr.heap.size := Nat.le_trans hloW hw.size
         have hgs : ∀ (j g m c : Nat), xs[j]? = some (some g, m, c) → g < wr.heap.size := fun j g m c hj => by
           obtain ⟨l, _, h, _⟩ := hr j g m c hj
           exact (or_high h).1
         have lgw := lt_of_row hg
         go_wp2
         generalize eB : wr.heap.size = B at *
         generalize wr = wo at *
         go_loopw [6, 7] (fun v i wr => ∃ j : Nat, j ≤ 80 ∧ i = .int .i64 j ∧ B ≤ wr.heap.size ∧ ApR lo wr xs (fun j l => ∀ t, t < l.length → l.getD t 0 = 1 + (j : Int)) ∧ wr.heap[gl]? = some (.cells (xs.map apV).toArray 22 (0, 0)) ∧ Below lo w wr ∧ ∃ v0, v = v0 ∧ ((∃ (g m c : Nat) (l : List Int) (ys : List Value), x = (some g, m, c) ∧ l.length = m ∧ (∀ t, t < l.length → l.getD t 0 = 1 + (k : Int)) ∧ v0 = .slice (some ⟨g, 0, none⟩) (m + j) c ∧ wr.ownsRow lo 5 1 (.slice (some ⟨g, 0, none⟩) (m + j) c) (m + j) (l.map (Value.int .u8) ++ ys)) ∨ (∃ ys : List Value, wr.ownsRow B 5 1 v0 (apN x + j) ys))) (fun _ i _ => 80 - (intOf i).toNat)
         case atStart =>
           refine ⟨0, by omega, rfl, by omega, hr, hg, hw, _, rfl, ?_⟩
           obtain ⟨_ | g, m, c⟩ := x
           · exact .inr ⟨[], rfl, .inl ⟨rfl, rfl⟩⟩
           · obtain ⟨l, hl, h, hm⟩ := hr k g m c hxk
             exact .inl ⟨g, m, c, l, [], rfl, hl, hm, rfl, by rw [List.append_nil]; exact h⟩
         case round =>
           clear hr hg hw hcl
           obtain ⟨j, hj, rfl, hBr, hr, hg, hw, v, hvv, hv⟩ := hrel
           by_cases hlt3 : j < 80
           · have hdj : decide ((j : Int) < 80) = true := by simp; omega
             have hga := World.grownBy_alloc wr (.cells #[.int .u8 (201 + (k : Int))] 5) none
             have hra := hr.moved hga (fun _ _ _ _ _ h => by cases h)
             have hwa : Below lo w (wr.alloc (.cells #[.int .u8 (201 + (k : Int))] 5)) := hw.alloc (by have := hw.size; omega) _
             have hgl2 : (wr.alloc (.cells #[.int .u8 (201 + (k : Int))] 5)).heap[gl]? = some (.cells (xs.map apV).toArray 22 (0, 0)) := (hga.block gl (by omega) (by simp)).trans hg
             have hza : (wr.alloc (.cells #[.int .u8 (201 + (k : Int))] 5)).heap.size = wr.heap.size + 1 := size_alloc1 _ _
             rcases hv with ⟨g, m, c, l, ys, rfl, hl, hm, rfl, hown⟩ | ⟨ys, hown⟩
             · subst hvv
               have hown_ := hown.alloc (.cells #[.int .u8 (201 + (k : Int))] 5)
               change m ≤ _ at hmN
               have hgB := hgs k g m c hxk
               have hgg := (hlo k g m c hxk).1
               go_wp2_with (at_builtin; refine wpList_append_cases _ rfl (.tmp 48) (.tmp 52) 22 rfl lo 5 i0 (.int .u8 0) Tryz.underlying22 hi hz0 hz1 hz2 rfl g (m + j) c _ rfl hown_ ⟨wr.heap.size, 0, none⟩ 1 1 [.int .u8 (201 + (k : Int))] rfl rfl (new_cell wr (201 + (k : Int))) (by simp [Value.oneCell']) (by unfold maxLen; omega) (by omega) (by omega) ?_ ?_)
               · intro w2 hown2 hgrow
                 have hs2 := hgrow.size
                 have hB2 : B ≤ w2.heap.size := by omega
                 have hr2 : ApR lo w2 xs (fun j l => ∀ t, t < l.length → l.getD t 0 = 1 + (j : Int)) := fun j' g' m' c' hj' => by
                   by_cases e : j' = k
                   · subst e
                     rw [hxk] at hj'
                     cases hj'
                     exact ⟨l, hl, or_prefix (j := j + 1) hown2 (by rw [List.length_map]; exact hl), hm⟩
                   · obtain ⟨l', h1, h2, h3⟩ := hra j' g' m' c' hj'
                     refine ⟨l', h1, or_move h2 hgrow (fun q => e ?_), h3⟩
                     injection q with q
                     subst q
                     exact hd _ _ _ _ _ _ _ hj' hxk
                 have hg3 : w2.heap[gl]? = _ := (hgrow.block gl (by omega) (by intro e; injection e with e; omega)).trans hgl2
                 have hw3 := hwa.grown hgrow (by omega) (fun q h => by injection h with h; have := (or_high hown_).2; omega)
                 clear hr hra hown hown_ hgrow hwa hw hg hgl2 hga hza
                 go_wp2
                 refine ⟨⟨j + 1, by omega, by go_num, hB2, hr2, hg3, hw3, _, rfl, .inl ⟨g, m, c, l, _, rfl, hl, hm, by rw [Nat.add_assoc], hown2⟩⟩, ?_⟩
                 simp [intOf]; omega
               · intro v' w2 hown2 hgrow
                 have hs2 := hgrow.size
                 have hB2 : B ≤ w2.heap.size := by omega
                 have hr2 := hra.moved hgrow (fun _ _ _ _ _ h => by cases h)
                 have hg3 : w2.heap[gl]? = _ := (hgrow.block gl (by omega) (by simp)).trans hgl2
                 have hw3 := hwa.grown hgrow (by omega) (fun q h => by cases h)
                 replace hown2 := or_lower hown2 (show B ≤ wr.heap.size + 1 by omega)
                 clear hr hra hown hown_ hgrow hwa hw hg hgl2 hga hza
                 obtain ⟨ao', cap', rfl⟩ := slen_own hown2
                 go_wp2
                 refine ⟨⟨j + 1, by omega, by go_num, hB2, hr2, hg3, hw3, _, rfl, .inr ⟨_, hown2⟩⟩, ?_⟩
                 simp [intOf]; omega
             · have hown_ := hown.alloc (.cells #[.int .u8 (201 + (k : Int))] 5)
               obtain ⟨ao0, cap0, rfl⟩ := slen_own hown
               subst hvv
               generalize apN x = m at *
               go_wp2_with (at_builtin; refine wpList_append_own _ rfl (.tmp 48) (.tmp 52) 22 rfl B 5 i0 (.int .u8 0) 1 1 Tryz.underlying22 hi hz0 hz1 hz2 rfl (by decide) _ (m + j) ys rfl hown_ ⟨wr.heap.size, 0, none⟩ 1 1 [.int .u8 (201 + (k : Int))] rfl rfl (new_cell wr (201 + (k : Int))) (by simp [Value.oneCell']) (by unfold maxLen; omega) (by omega) (by omega) ?_)
               intro v' w2 hown2 hgrow _
               have hs2 := hgrow.size
               have hB2 : B ≤ w2.heap.size := by omega
               have hob : ∀ q, (Value.slice ao0 (m + j) cap0).ownBlock = some q → B ≤ q := fun q h => (hown_.lt q h).1
               have hr2 := hra.moved hgrow (fun j' g' m' c' hj' h => by
                 have h1 := hob _ h
                 have h2 := hgs j' g' m' c' hj'
                 omega)
               have hg3 : w2.heap[gl]? = _ := (hgrow.block gl (by omega) (fun e => by have := hob _ e.symm; omega)).trans hgl2
               have hw3 := hwa.grown hgrow (by omega) (fun q h => by have := hob q h; omega)
               clear hr hra hown hown_ hgrow hwa hw hg hgl2 hga hza hob
               obtain ⟨ao', cap', rfl⟩ := slen_own hown2
               go_wp2
               refine ⟨⟨j + 1, by omega, by go_num, hB2, hr2, hg3, hw3, _, rfl, .inr ⟨_, hown2⟩⟩, ?_⟩
               simp [intOf]; omega
           · obtain rfl : j = 80 := by omega
             have hdj : decide ((80 : Int) < 80) = false := by decide
             have hvl : ∃ ao0 cap0, v = .slice ao0 (apN x + 80) cap0 := by
               rcases hv with ⟨g, m, c, l, ys, rfl, hl, hm, rfl, hown⟩ | ⟨ys, hown⟩
               · exact ⟨_, _, rfl⟩
               · exact slen_own hown
             obtain ⟨ao0, cap0, rfl⟩ := hvl
             subst hvv
             have hcl := hrow.out _ hg k hlt2
             rw [show xs.getD k (none, 0, 0) = x by rw [List.getD_eq_getElem?_getD, hxk]; rfl] at hcl
             clear hv
             go_wp2
             refine ⟨⟨k + 1, by omega, by go_num, hr, hg, hw⟩, ?_⟩
             simp [intOf]; omega
       · obtain rfl : k = xs.length := by omega
         have hdk : decide ((xs.length : Int) < (xs.length : Int)) = false := by simp
         go_wp2
         go_loopw [8] (fun i wr => ∃ k : Nat, k ≤ xs.length ∧ i = .int .i64 k ∧ ApR lo wr xs (fun j l => ∀ t, t < l.length → l.getD t 0 = 1 + (j : Int)) ∧ wr.heap[gl]? = some (.cells (xs.map apV).toArray 22 (0, 0)) ∧ Below lo w wr) (fun i _ => xs.length - (intOf i).toNat)
         case atStart => exact ⟨0, by omega, rfl, hr, hg, hw⟩
         case round =>
           clear hr hg hw hdk
           obtain ⟨k, hk, rfl, hr, hg, hw⟩ := hrel
           by_cases hlt3 : k < xs.length
           · have hdk : decide ((k : Int) < (xs.length : Int)) = true := by simp; omega
             have hmod : (1 + (k : Int)) % 256 = 1 + (k : Int) := by omega
             obtain ⟨x, hxk⟩ : ∃ x, xs[k]? = some x := ⟨_, List.getElem?_eq_getElem hlt3⟩
             have hrk := fun W h => hrow.out W h k hlt3
             rw [show xs.getD k (none, 0, 0) = x by rw [List.getD_eq_getElem?_getD, hxk]; rfl] at hrk
             replace hrk := hide hrk
             go_wp2
             go_loopw [9] (fun i wr => ∃ t : Nat, t ≤ apN x ∧ i = .int .i64 t ∧ ApR lo wr xs (fun j l => ∀ t, t < l.length → l.getD t 0 = 1 + (j : Int)) ∧ wr.heap[gl]? = some (.cells (xs.map apV).toArray 22 (0, 0)) ∧ Below lo w wr) (fun i _ => apN x - (intOf i).toNat)
             case atStart => exact ⟨0, by omega, rfl, hr, hg, hw⟩
             case round =>
               clear hr hg hw
               obtain ⟨t, ht, rfl, hr, hg, hw⟩ := hrel
               have hcl := hrk.out _ hg
               by_cases hlt4 : t < apN x
               · have hdt : decide ((t : Int) < (apN x : Int)) = true := by simp; omega
                 obtain ⟨g, m, c, rfl⟩ := ap_some hlt4
                 change wr.cell? ⟨gl, k, none⟩ = some (.slice (some ⟨g, 0, none⟩) m c) at hcl
                 change t < m at hlt4
                 change decide ((t : Int) < (m : Int)) = true at hdt
                 obtain ⟨l, hl, rl, hP⟩ := hr k g m c hxk
                 have hmm := (hlo k g m c hxk).2
                 obtain ⟨c1, _⟩ := or_cell rl hlt4
                 rw [hP t (by omega)] at c1
                 clear hP rl
                 go_wp2
                 refine ⟨⟨t + 1, by show t + 1 ≤ m; omega, by go_num, hr, hg, hw⟩, ?_⟩
                 simp [intOf, apN]; omega
               · obtain rfl : t = apN x := by omega
                 have hdt : decide ((apN x : Int) < (apN x : Int)) = false := by simp
                 go_wp2
                 refine ⟨⟨k + 1, by omega, by go_num, hr, hg, hw⟩, ?_⟩
                 simp [intOf]; omega
           · obtain rfl : k = xs.length := by omega
             have hdk : decide ((xs.length : Int) < (xs.length : Int)) = false := by simp
             go_wp2
             go_ret
             exact ⟨rfl, hw⟩
end Go.Proofs.YtlbndkfllegacaaGreatDoor
namespace Go.Proofs.YtlbndkfllegacaaGreatDoor
set_option maxRecDepth 100000
open Go Go.RowKit Go.Sort
attribute [local go_sem] setCell_drewN alloc_drewN
theorem own_ap {W : World} {b : Nat} {v : Value} {d : List B} (h : Own W b v d) : ∃ x : Option Nat × Nat × Nat, v = apV x ∧ ∀ g m c, x = (some g, m, c) → m = d.length ∧ b ≤ g ∧ g < W.heap.size ∧ W.ownsRow b 5 1 (.slice (some ⟨g, 0, none⟩) m c) m ((bl d).map (Value.int .u8)) := by
 have h0 : W.ownsRow b 5 1 v d.length ((bl d).map (Value.int .u8)) := h
 obtain ⟨q1, ⟨hv, _⟩ | ⟨g1, cap1, cur, hv, hbg, hg, hq⟩⟩ := h
 · exact ⟨(none, 0, 0), hv, fun g m c e => by cases e⟩
 · refine ⟨(some g1, d.length, cap1), hv, fun g m c e => ?_⟩
   cases e
   rw [hv] at h0
   exact ⟨rfl, hbg, lt_of_row hg, h0⟩
theorem head_bysB {W : World} {g n : Nat} {e : List B} {m : List Int} {t : TypeId} (hg : W.heap[g]? = some (.cells (irow .u8 (bl e ++ m)) t (0, 0))) (hn : e.length = n) (hl : n ≤ 140737488355000) (cap : Nat) : BysB W (.slice (some ⟨g, 0, none⟩) n cap) e := by
 have h := Bys.of_prefix hg (by rw [bl_len]; omega) (bl_bnd e) cap
 rw [bl_len, hn] at h
 exact ⟨h, by omega, fun a l c h h2 => by cases h; cases h2⟩
theorem sB_same (a b : List B) (w : World) (u v : Value) (hu : Bys w u (bl a)) (hv : Bys w v (bl b)) : Calls Tryz.prog 20 #[u, v] w fun e w' => e = .returned (.bool (decide (a = b))) ∧ Below w.heap.size w w' := by
 have h := s_same (bl a) (bl b) w u v hu hv
 rw [bl_dec] at h
 exact h
theorem sB_hand (e : List B) (w : World) (v : Value) (hB : BysB w v e) : Calls Tryz.prog 9 #[v] w fun r w' => r = .returned (.slice (some ⟨w.heap.size, 0, none⟩) (e.length + 80) (e.length + 80)) ∧ w'.heap[w.heap.size]? = some (.cells (irow .u8 (bl e ++ mk4 80)) 5 (0, 0)) ∧ Below w.heap.size w w' := by
 have h := s_hand (bl e) w v hB.1 (by rw [bl_len]; have := hB.2.1; omega)
 rw [bl_len] at h
 exact h
theorem sB_left (e : List B) (g : Nat) (w : World) (v : Value) (hB : BysB w v e) (rg : w.heap[g]? = some (.cells (irow .u8 (bl e ++ mk4 80)) 5 (0, 0))) : Calls Tryz.prog 13 #[.slice (some ⟨g, 0, none⟩) (e.length + 80) (e.length + 80), v] w fun r w' => r = .returned (.bool true) ∧ Below w.heap.size w w' := by
 have h := s_left (bl e) g w v hB.1 (by rw [bl_len]; have := hB.2.1; omega) rg
 rw [bl_len] at h
 exact h
end Go.Proofs.YtlbndkfllegacaaGreatDoor
namespace Go.Proofs.YtlbndkfllegacaaGreatDoor
set_option maxRecDepth 100000
open Go Go.RowKit Go.Sort
attribute [local go_sem] setCell_drewN alloc_drewN
theorem own_none10 (W : World) (b : Nat) : Own W b (.slice none 0 0) [] := ⟨rfl, .inl ⟨rfl, rfl⟩⟩
end Go.Proofs.YtlbndkfllegacaaGreatDoor
namespace Go.Proofs.YtlbndkfllegacaaGreatDoor
set_option maxRecDepth 100000
open Go Go.RowKit Go.Sort
attribute [local go_sem] setCell_drewN alloc_drewN
def Owns (W : World) : Nat → List (Value × List B) → Nat → Prop
 | lo, [], hi => lo ≤ hi
 | lo, x :: r, hi => ∃ m, lo ≤ m ∧ Own W lo x.1 x.2 ∧ (∀ k, x.1.ownBlock = some k → k < m) ∧ x.2.length ≤ 140737488350000 ∧ Owns W m r hi
theorem Owns.le {W : World} : ∀ {l : List (Value × List B)} {lo hi : Nat}, Owns W lo l hi → lo ≤ hi
 | [], _, _, h => h
 | _ :: _, _, _, ⟨_, h1, _, _, _, h2⟩ => Nat.le_trans h1 h2.le
theorem Owns.ap {W : World} {base : Nat} : ∀ {l : List (Value × List B)} {lo hi : Nat}, base ≤ lo → Owns W lo l hi → ∃ xs : List (Option Nat × Nat × Nat), xs.map apV = l.map Prod.fst ∧ ApR base W xs (fun _ _ => True) ∧ ApD xs ∧ ∀ (i : Nat) g m c, xs[i]? = some (some g, m, c) → lo ≤ g ∧ g < hi ∧ m ≤ 140737488350000
 | [], _, _, _, _ => ⟨[], rfl, fun j g m c h => by simp at h, fun i j g m n c d h => by simp at h, fun i g m c h => by simp at h⟩
 | x :: r, lo, hi, hb, ⟨k, h1, h2, h3, h4, h5⟩ => by
   obtain ⟨xs, q1, q2, q3, q4⟩ := Owns.ap (Nat.le_trans hb h1) h5
   obtain ⟨y, hy, hyy⟩ := own_ap h2
   have hk := h5.le
   have hb1 : ∀ g m c, y = (some g, m, c) → lo ≤ g ∧ g < k := fun g m c e => ⟨(hyy g m c e).2.1, h3 g (by rw [hy, e]; rfl)⟩
   refine ⟨y :: xs, by rw [List.map_cons, List.map_cons, q1, hy], ?_, ?_, ?_⟩
   · intro j g m c hj
     cases j with
     | zero =>
       have e : y = (some g, m, c) := by simpa using hj
       obtain ⟨e1, e2, e3, e4⟩ := hyy g m c e
       exact ⟨bl x.2, by rw [bl_len, e1], or_lower e4 hb, trivial⟩
     | succ j => exact q2 j g m c (by simpa using hj)
   · intro i j g m n c d hi hj
     cases i with
     | zero =>
       cases j with
       | zero => rfl
       | succ j =>
         have := hb1 g m c (by simpa using hi)
         have := q4 j g n d (by simpa using hj)
         omega
     | succ i =>
       cases j with
       | zero =>
         have := hb1 g n d (by simpa using hj)
         have := q4 i g m c (by simpa using hi)
         omega
       | succ j => rw [q3 i j g m n c d (by simpa using hi) (by simpa using hj)]
   · intro i g m c hi'
     cases i with
     | zero =>
       have e : y = (some g, m, c) := by simpa using hi'
       have := hb1 g m c e
       have := (hyy g m c e).1
       omega
     | succ i =>
       have := q4 i g m c (by simpa using hi')
       omega
theorem s_aparts (l : List (Value × List B)) (lo hi gl : Nat) (w : World) (hO : Owns w lo l hi) (hh : hi ≤ gl) (hn : l.length ≤ 50) (hg : w.heap[gl]? = some (.cells (l.map Prod.fst).toArray 22 (0, 0))) : Calls Tryz.prog 21 #[.slice (some ⟨gl, 0, none⟩) l.length l.length] w fun e w' => e = .returned (.bool true) ∧ Below lo w w' := by
 have hle := hO.le
 have hgl := lt_of_row hg
 obtain ⟨xs, q1, q2, q3, q4⟩ := Owns.ap (Nat.le_refl lo) hO
 have hlen : xs.length = l.length := by have := congrArg List.length q1; simpa using this
 have := s_apart xs gl lo w (by omega) (by omega) (by rw [q1]; exact hg) q2 q3 (fun i g m c h => by have := q4 i g m c h; omega)
 rw [hlen] at this
 exact this
theorem Owns.keep {W V : World} : ∀ {l : List (Value × List B)} {lo hi : Nat}, Owns W lo l hi → Below W.heap.size W V → Owns V lo l hi
 | [], _, _, h, _ => h
 | _ :: _, _, _, ⟨m, h1, h2, h3, h4, h5⟩, hb => ⟨m, h1, h2.keep hb, h3, h4, h5.keep hb⟩
theorem Owns.snoc {W : World} {v : Value} {L : List B} : ∀ {l : List (Value × List B)} {lo hi : Nat}, Owns W lo l hi → Own W hi v L → L.length ≤ 140737488350000 → (hz : hi ≤ W.heap.size) → Owns W lo (l ++ [(v, L)]) W.heap.size
 | [], lo, hi, h, hO, hl, hz => ⟨W.heap.size, by have : lo ≤ hi := h; omega, own_down hO h, own_high hO, hl, Nat.le_refl _⟩
 | _ :: r, _, _, ⟨m, h1, h2, h3, h4, h5⟩, hO, hl, hz => ⟨m, h1, h2, h3, h4, h5.snoc hO hl hz⟩
end Go.Proofs.YtlbndkfllegacaaGreatDoor
namespace Go.Proofs.YtlbndkfllegacaaGreatDoor
set_option maxRecDepth 100000
open Go Go.RowKit Go.Sort
attribute [local go_sem] setCell_drewN alloc_drewN
end Go.Proofs.YtlbndkfllegacaaGreatDoor
namespace Go.Proofs.YtlbndkfllegacaaGreatDoor
set_option maxRecDepth 100000
open Go Go.RowKit Go.Sort
attribute [local go_sem] setCell_drewN alloc_drewN
end Go.Proofs.YtlbndkfllegacaaGreatDoor
namespace Go.Proofs.YtlbndkfllegacaaGreatDoor
set_option maxRecDepth 100000
open Go Go.RowKit Go.Sort
attribute [local go_sem] setCell_drewN alloc_drewN
end Go.Proofs.YtlbndkfllegacaaGreatDoor
namespace Go.Proofs.YtlbndkfllegacaaGreatDoor
set_option maxRecDepth 100000
open Go Go.RowKit Go.Sort
/-! What was packed is read again; what is read was packed. -/
theorem efs_ech (v : Nat) (nonce hd bd : List B) : ech (efs v nonce hd bd) 0 = 0 := by
 simp [efs, ech, fck, hck, fits, known]
theorem en_le4 {n : Nat} (h : n < 268435456) : (en n).length ≤ 4 := by
 by_cases h1 : n < 128
 · rw [en_lo h1]; simp
 · rw [en_hi h1]
   by_cases h2 : n / 128 < 128
   · rw [en_lo h2]; simp
   · rw [en_hi h2]
     by_cases h3 : n / 128 / 128 < 128
     · rw [en_lo h3]; simp
     · rw [en_hi h3, en_lo (show n / 128 / 128 / 128 < 128 by omega)]; simp
theorem efs_len {v : Nat} {nonce hd bd : List B} (hv : v < 128) (hn : nonce.length = 16) (hh : hd.length = 60) : (ebs (efs v nonce hd bd)).length = 83 + (en bd.length).length + bd.length := by
 have e1 : (fby ⟨1, 0, v, []⟩).length = 2 := by
   unfold fby
   rw [List.length_append, show fhd ⟨1, 0, v, []⟩ = 8 from rfl, en_l1 (by decide), show fvl ⟨1, 0, v, []⟩ = en v from rfl, en_l1 hv]
 have e2 : (fby ⟨2, 2, 0, nonce⟩).length = 18 := by
   unfold fby
   rw [List.length_append, show fhd ⟨2, 2, 0, nonce⟩ = 18 from rfl, en_l1 (by decide), show fvl ⟨2, 2, 0, nonce⟩ = itm nonce from rfl, itm_len, hn, en_l1 (by decide)]
 have e3 : (fby ⟨3, 2, 0, hd⟩).length = 62 := by
   unfold fby
   rw [List.length_append, show fhd ⟨3, 2, 0, hd⟩ = 26 from rfl, en_l1 (by decide), show fvl ⟨3, 2, 0, hd⟩ = itm hd from rfl, itm_len, hh, en_l1 (by decide)]
 have e4 : (fby ⟨4, 2, 0, bd⟩).length = 1 + ((en bd.length).length + bd.length) := by
   unfold fby
   rw [List.length_append, show fhd ⟨4, 2, 0, bd⟩ = 34 from rfl, en_l1 (by decide), show fvl ⟨4, 2, 0, bd⟩ = itm bd from rfl, itm_len]
 unfold efs
 rw [ebs, ebs, ebs, ebs, ebs, List.length_append, List.length_append, List.length_append, List.length_append, e1, e2, e3, e4, List.length_nil]
 omega
theorem mo_le (v : Nat) : mo v ≤ 2097168 := by
 unfold mo
 split <;> decide
theorem efs_eer {v : Nat} {nonce hd bd : List B} (hv : v < 128) (hn : nonce.length = 16) (hh : hd.length = 60) (hb : bd.length ≤ 2097168) : eer (efs v nonce hd bd) = 0 := by
 refine eer_ok.2 ⟨by show 4 ≤ 64; decide, efs_ech _ _ _ _, ?_⟩
 rw [efs_len hv hn hh]
 have := en_le4 (n := bd.length) (by omega)
 omega
theorem efs_fok {v : Nat} {nonce hd bd : List B} (hv : v < 128) (hn : nonce.length = 16) (hh : hd.length = 60) (hb : bd.length ≤ 2097168) : ∀ f ∈ efs v nonce hd bd, Fok f := by
 intro f hf
 simp only [efs, List.mem_cons, List.not_mem_nil, or_false] at hf
 rcases hf with rfl | rfl | rfl | rfl
 · exact ⟨by show v < _; omega, by show 0 ≤ _; omega, by show (-9223372036854775808 : Int) ≤ 1; decide, by show (1 : Int) ≤ _; decide⟩
 · exact ⟨by show 0 < _; decide, by show nonce.length ≤ _; omega, by show (-9223372036854775808 : Int) ≤ 2; decide, by show (2 : Int) ≤ _; decide⟩
 · exact ⟨by show 0 < _; decide, by show hd.length ≤ _; omega, by show (-9223372036854775808 : Int) ≤ 3; decide, by show (3 : Int) ≤ _; decide⟩
 · exact ⟨by show 0 < _; decide, by show bd.length ≤ _; omega, by show (-9223372036854775808 : Int) ≤ 4; decide, by show (4 : Int) ≤ _; decide⟩
theorem pk_ok {v hl bn : Nat} (h : pk10 v hl bn = none) : hl = 60 ∧ 80 ≤ bn ∧ bn ≤ mo v ∧ bkd (dg v) (bn - 16) = bn - 16 := by
 unfold pk10 at h
 split at h
 · cases h
 · split at h
   · cases h
   · split at h
     · exact ⟨by omega, by omega, by omega, by assumption⟩
     · cases h
theorem pk_of {v hl bn : Nat} (h1 : hl = 60) (h2 : 80 ≤ bn) (h3 : bn ≤ mo v) (h4 : bkd (dg v) (bn - 16) = bn - 16) : pk10 v hl bn = none := by
 unfold pk10
 rw [if_neg (by omega), if_neg (by omega), if_pos h4]
theorem known_lt10 {v : Nat} (h : known10 v = true) : v = 1 ∨ v = 2 := by
 unfold known10 at h
 simpa using h
theorem wth_in {n l m : Int} (h1 : l ≤ n) (h2 : n ≤ m) : wth n l m = 0 := by
 unfold wth
 rw [if_neg (by omega)]
theorem dsl_some {t : Slt} {f : Fd} {a : Int} (h1 : f.no = t.no) (h2 : f.ty = wtK t) (h3 : ftF t f = 0) : dsl t f a = none := by
 unfold dsl rdE
 rw [if_neg (by simp [h1]), if_neg (by simp [h2]), if_pos h3]
theorem efs_dec8 {v : Nat} {nonce hd bd : List B} (hn : nonce.length = 16) (hh : hd.length = 60) (h2 : 80 ≤ bd.length) (h3 : bd.length ≤ mo v) (a : Int) : dcF (esl v) (efs v nonce hd bd) a = none := by
 unfold esl efs
 have q1 : ∀ a, dsl (.mk 1 1 v v []) ⟨1, 0, v, []⟩ a = none := fun a => dsl_some rfl rfl (show wth (v : Int) (v : Int) (v : Int) = 0 from wth_in (Int.le_refl _) (Int.le_refl _))
 have q2 : ∀ a, dsl (.mk 2 5 16 16 []) ⟨2, 2, 0, nonce⟩ a = none := fun a => dsl_some rfl rfl (show wth (nonce.length : Int) 16 16 = 0 by rw [hn]; rfl)
 have q3 : ∀ a, dsl (.mk 3 5 60 60 []) ⟨3, 2, 0, hd⟩ a = none := fun a => dsl_some rfl rfl (show wth (hd.length : Int) 60 60 = 0 by rw [hh]; rfl)
 have q4 : ∀ a, dsl (.mk 4 5 80 (mo v) []) ⟨4, 2, 0, bd⟩ a = none := fun a => dsl_some rfl rfl (show wth (bd.length : Int) 80 (mo v : Int) = 0 from wth_in (by omega) (by omega))
 simp only [dcF, q1, q2, q3, q4]
theorem there10 {v : Nat} {nonce hd bd : List B} (hk : known10 v = true) (hn : nonce.length = 16) (h : pk10 v hd.length bd.length = none) : dfs (dwh (eout (efs v nonce hd bd))) = efs v nonce hd bd ∧ riV (eout (efs v nonce hd bd)) = v ∧ paF (eout (efs v nonce hd bd)) = none ∧ (eout (efs v nonce hd bd)).length = 83 + (en bd.length).length + bd.length ∧ der (dwh (eout (efs v nonce hd bd))) = 0 := by
 obtain ⟨h1, h2, h3, h4⟩ := pk_ok h
 have hv : v < 128 := by rcases known_lt10 hk with rfl | rfl <;> decide
 have hb : bd.length ≤ 2097168 := Nat.le_trans h3 (mo_le v)
 have e0 := efs_eer hv hn h1 hb
 have e1 : eout (efs v nonce hd bd) = ebs (efs v nonce hd bd) := by unfold eout; rw [if_pos e0]
 obtain ⟨d1, d2, d3⟩ := enc_dec e0 (efs_fok hv hn h1 hb)
 rw [e1]
 have hV : riV (ebs (efs v nonce hd bd)) = v := by unfold riV; rw [d3]; rfl
 have hE : riE (ebs (efs v nonce hd bd)) = 0 := by
   unfold riE
   rw [hV, d1, d3, if_neg (by simp), if_neg (by show ¬ (4 = 0 ∨ (1 : Int) ≠ 1); simp), if_neg (by show ¬ (0 : Int) ≠ 0; simp), if_pos hk]
 refine ⟨d3, hV, ?_, efs_len hv hn h1, d1⟩
 unfold paF
 rw [if_neg (by rw [hE]; simp), hV, show dec8 (esl v) (ebs (efs v nonce hd bd)) 0 = none by unfold dec8; rw [d1, d3, if_neg (by simp)]; exact efs_dec8 hn h1 h2 h3 0]
 simp only
 rw [d3, show (gf (efs v nonce hd bd) 3).dat = bd from rfl, if_pos h4]
/-! Padding. -/
end Go.Proofs.YtlbndkfllegacaaGreatDoor

