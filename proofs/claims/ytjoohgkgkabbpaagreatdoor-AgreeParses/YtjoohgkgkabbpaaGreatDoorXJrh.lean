import Derived.Test.YtjoohgkgkabbpaaGreatDoorXJrx
import Derived.Test.YtjoohgkgkabbpaaGreatDoorXJre
import Derived.OwnWalk
import Derived.Deep.Cut
import Derived.Deep.RegionHeld3
import Derived.Test.YtjoohgkgkabbpaaGreatDoorXQb4
namespace Go.Proofs.YtjoohgkgkabbpaaGreatDoor
set_option maxRecDepth 100000
open Go Go.RowKit Go.Sort
attribute [local go_sem] setCell_drewN alloc_drewN
set_option maxRecDepth 100000 in
set_option maxHeartbeats 4000000 in
theorem a_canBe (i s o : List Int) (h : Bool) (hi : i.length = 32) (hs : s.length = 32) (ho : o.length = 32) (w : World) : Calls Tryz.prog 36 #[.agg (brow i s o h)] w fun e w' => e = .returned (.bool (h || decide (o = zr 32))) ∧ Below w.heap.size w w' := by
 have R0 := hp1_0 w (.cells (brow i s o h) 43)
 have hw : Below w.heap.size w (w.alloc (.cells (brow i s o h) 43)) := (Below.refl _ _).alloc (Nat.le_refl _) _
 have c_h : World.cell? _ ⟨w.heap.size, 96, none⟩ = some (.bool h) := (cell_of_row _ _ _ _ _ _ R0).trans (bn_h i s o h hi hs ho)
 have heq := fun W => eq_k o (zr 32) ho (zr_len 32) W
 have xo := bn_o i s o h hi hs ho
 generalize decide (o = zr 32) = D at *
 generalize brow i s o h = R at *
 go_enter Tryz.func36, Tryz.ntmps36
 go_upto_region 1 with (first | (refine wpList_box rfl 43 _ rfl _ rfl (box_brow _) ?_) | fail)
 try simp only [Act.put, List.setIfInBounds_toArray, List.set_cons_succ, List.set_cons_zero]
 generalize w.alloc (.cells R 43) = w1 at *
 cases h
 ·go_wp2_with (first | (refine wpList_load_part rfl 25 _ rfl (w.heap.size) 64 rfl 43 R (0, 0) (irow .u8 o) _ R0 xo Tryz.underlying25 rfl (infoKy o ho) ?_) | (refine wpList_build_want rfl 25 _ rfl [] rfl (irow .u8 (zr 32)) builtZk ?_) | fail)
  go_ret
  exact ⟨rfl, hw⟩
 ·repeat (first | go_skip | go_step)
  go_ret
  exact ⟨rfl, hw⟩
section
variable {P : Program}
theorem run_build_op {o : Oper} {a : Act} {w : World} (t : TypeId) (parts : Array (Nat × Operand)) (ho : o.op = .build t parts) (vals : List (Nat × Value)) (hv : parts.toList.map (fun (i, x) => (i, a.eval x)) = vals) (cells : Array Value) (hb : P.built t vals = some cells) : (execOp a.eval o).run P w = .ok (.value (.agg cells)) w := by
 rw [← Array.toList_map] at hv
 subst hv
 unfold execOp
 simp only [ho, Sem.run_bind, Sem.run_pure, run_build w t _ cells hb, Result.andThen_ok]
end
theorem arr_k (g o c : Nat) (W : World) : (Instr.arrayAt 25 (.slice (some ⟨g, o, none⟩) 32 c)).run Tryz.prog W = .ok (.pointer (some ⟨g, o, none⟩)) W := by kernel_rfl
theorem dcF_cons {t : Slt} {ts : List Slt} {f : Fd} {fs : List Fd} {at_ : Int} (h : dcF (t :: ts) (f :: fs) at_ = none) : dsl t f at_ = none ∧ dcF ts fs (at_ + ((fby f).length : Int)) = none := by
 rw [dcF] at h
 cases hd : dsl t f at_ with
 | none => rw [hd] at h; exact ⟨rfl, h⟩
 | some x => rw [hd] at h; cases h
theorem dsl_none {t : Slt} {f : Fd} {at_ : Int} (h : dsl t f at_ = none) : f.no = t.no ∧ f.ty = wtK t ∧ ftF t f = 0 := by
 unfold dsl at h
 by_cases h1 : f.no = t.no
 ·rw [if_neg (by simpa using h1)] at h
  by_cases h2 : f.ty = wtK t
  ·rw [if_neg (by simpa using h2)] at h
   unfold rdE at h
   by_cases h3 : ftF t f = 0
   ·exact ⟨h1, h2, h3⟩
   ·rw [if_neg h3] at h; cases h
  ·rw [if_pos h2] at h; cases h
 ·rw [if_pos h1] at h; cases h
theorem wth_zero {n l m : Int} (h : wth n l m = 0) : l ≤ n ∧ n ≤ m := by
 unfold wth at h
 split at h
 ·cases h
 ·omega
theorem key_field {no : Int} {f : Fd} {at_ : Int} (h : dsl (.mk no 5 32 32 []) f at_ = none) (hf : fits f) : ∃ l : List B, f = ⟨no, 2, 0, l⟩ ∧ l.length = 32 := by
 obtain ⟨h1, h2, h3⟩ := dsl_none h
 obtain ⟨fno, fty, fnum, fdat⟩ := f
 have e1 : fno = no := h1
 have e2 : fty = 2 := h2
 subst e1 e2
 have e3 := wth_zero (show wth (fdat.length : Int) 32 32 = 0 from h3)
 have e4 : fnum = 0 := by
  unfold fits at hf
  simpa using hf
 subst e4
 exact ⟨fdat, rfl, by omega⟩
theorem flag_field {no : Int} {f : Fd} {at_ : Int} (h : dsl (.mk no 4 0 0 []) f at_ = none) (hf : fits f) : ∃ n : Nat, f = ⟨no, 0, n, []⟩ ∧ n < 2 := by
 obtain ⟨h1, h2, h3⟩ := dsl_none h
 obtain ⟨fno, fty, fnum, fdat⟩ := f
 have e1 : fno = no := h1
 have e2 : fty = 0 := h2
 subst e1 e2
 have e3 := wth_zero (show wth (fnum : Int) 0 1 = 0 from h3)
 have e4 : fdat = [] := by
  unfold fits at hf
  simp at hf
  exact hf
 subst e4
 exact ⟨fnum, rfl, by omega⟩
theorem dec_bsl {d : List B} (h : dec8 bsl d 0 = none) : der (dwh d) = 0 ∧ ∃ (i s o : List B) (fl : Nat), dfs (dwh d) = [⟨1, 2, 0, i⟩, ⟨2, 2, 0, s⟩, ⟨3, 0, fl, []⟩, ⟨4, 2, 0, o⟩] ∧ i.length = 32 ∧ s.length = 32 ∧ o.length = 32 ∧ fl < 2 := by
 unfold dec8 at h
 by_cases hd : der (dwh d) = 0
 ·rw [if_neg (by simpa using hd)] at h
  have hft : ∀ f ∈ dfs (dwh d), fits f := fun f hf => (ech_all _ 0 (by decide) (eer_ok.1 (dec_enc hd).1).2.1 f hf).2.2.2
  refine ⟨hd, ?_⟩
  generalize dfs (dwh d) = fs at *
  unfold bsl at h
  match fs, h, hft with
  | [], h, _ => cases h
  | [f1], h, _ => cases (dcF_cons h).2
  | [f1, f2], h, _ => cases (dcF_cons (dcF_cons h).2).2
  | [f1, f2, f3], h, _ => cases (dcF_cons (dcF_cons (dcF_cons h).2).2).2
  | f1 :: f2 :: f3 :: f4 :: f5 :: r, h, _ => cases (dcF_cons (dcF_cons (dcF_cons (dcF_cons h).2).2).2).2
  | [f1, f2, f3, f4], h, hft =>
   obtain ⟨a1, h⟩ := dcF_cons h
   obtain ⟨a2, h⟩ := dcF_cons h
   obtain ⟨a3, h⟩ := dcF_cons h
   obtain ⟨a4, h⟩ := dcF_cons h
   obtain ⟨i, rfl, li⟩ := key_field a1 (hft _ (by simp))
   obtain ⟨s, rfl, ls⟩ := key_field a2 (hft _ (by simp))
   obtain ⟨n, rfl, ln⟩ := flag_field a3 (hft _ (by simp))
   obtain ⟨o, rfl, lo⟩ := key_field a4 (hft _ (by simp))
   exact ⟨i, s, o, n, rfl, li, ls, lo, ln⟩
 ·rw [if_pos hd] at h; cases h
theorem own_range {W : World} {b : Nat} {v : Value} {d : List B} (h : Own W b v d) (hp : 0 < d.length) : ∃ g c, v = .slice (some ⟨g, 0, none⟩) d.length c ∧ d.length ≤ c ∧ b ≤ g ∧ g < W.heap.size ∧ W.rangeAt g 0 ((bl d).map (Value.int .u8)) := by
 have h' := h
 obtain ⟨_, ⟨rfl, h0⟩ | ⟨g, cap, cur, rfl, hb, hg, hn, hm, hs, ht⟩⟩ := h'
 ·omega
 ·refine ⟨g, cap, rfl, hn, hb, lt_of_row hg, fun j x hx => ?_⟩
  have := World.ownsRow.cells h (g := g) rfl j x hx
  rw [addr_add] at this
  exact this
theorem builtB4 (i s o : List Int) (h : Bool) (hi : i.length = 32) (hs : s.length = 32) (ho : o.length = 32) : Tryz.prog.built 43 [(0, .agg (irow .u8 i)), (1, .agg (irow .u8 s)), (3, .bool h), (2, .agg (irow .u8 o))] = some (brow i s o h) := by
 obtain ⟨i0, i1, i2, i3, i4, i5, i6, i7, i8, i9, i10, i11, i12, i13, i14, i15, i16, i17, i18, i19, i20, i21, i22, i23, i24, i25, i26, i27, i28, i29, i30, i31, rfl⟩ := len32 i hi
 obtain ⟨s0, s1, s2, s3, s4, s5, s6, s7, s8, s9, s10, s11, s12, s13, s14, s15, s16, s17, s18, s19, s20, s21, s22, s23, s24, s25, s26, s27, s28, s29, s30, s31, rfl⟩ := len32 s hs
 obtain ⟨o0, o1, o2, o3, o4, o5, o6, o7, o8, o9, o10, o11, o12, o13, o14, o15, o16, o17, o18, o19, o20, o21, o22, o23, o24, o25, o26, o27, o28, o29, o30, o31, rfl⟩ := len32 o ho
 kernel_rfl
theorem builtB0 : Tryz.prog.built 43 [] = some (brow (zr 32) (zr 32) (zr 32) false) := by kernel_rfl
def par14 (d : List B) : Option Flt3 := match dec8 bsl d 0 with
 | some x => some x
 | none => if (gf (dfs (dwh d)) 2).num = 1 ∨ (gf (dfs (dwh d)) 3).dat = z32 then none else some ⟨0, 70, 140⟩
def pbn (d : List B) : Array Value := brow (bl (gf (dfs (dwh d)) 0).dat) (bl (gf (dfs (dwh d)) 1).dat) (bl (gf (dfs (dwh d)) 3).dat) (decide ((gf (dfs (dwh d)) 2).num = 1))
def PrR (base : Nat) (d : List B) (e : Ending) (w' : World) : Prop := match par14 d with
 | none => e = .returned (.tuple #[.agg (pbn d), .nilIface])
 | some x => ∃ g, e = .returned (.tuple #[.agg (brow (zr 32) (zr 32) (zr 32) false), .iface 87 (.pointer (some ⟨g, 0, none⟩))]) ∧ base ≤ g ∧ w'.heap[g]? = some (.cells (frw x) 35 (0, 0))
theorem own_rangeR {W : World} {b : Nat} {e : TypeId} {sz : Nat} {v : Value} {n : Nat} {xs : List Value} (h : W.ownsRow b e sz v n xs) (hp : 0 < n) : ∃ g c, v = .slice (some ⟨g, 0, none⟩) n c ∧ b ≤ g ∧ g < W.heap.size ∧ W.rangeAt g 0 xs := by
 have h' := h
 obtain ⟨_, ⟨rfl, h0⟩ | ⟨g, cap, cur, rfl, hb, hg, hn, hm, hs, ht⟩⟩ := h'
 ·omega
 ·refine ⟨g, cap, rfl, hb, lt_of_row hg, fun j x hx => ?_⟩
  have := World.ownsRow.cells h (g := g) rfl j x hx
  rw [addr_add] at this
  exact this
theorem mv_range {W V : World} {b o : Nat} {cs : List Value} (h : W.rangeAt b o cs) (hb : V.heap[b]? = W.heap[b]?) : V.rangeAt b o cs := fun j v hv => (World.cell?_of_block hb).trans (h j v hv)
theorem zr_bl {l : List B} : bl l = zr 32 ↔ l = z32 := by
 rw [show zr 32 = bl z32 by decide]
 exact ⟨fun h => bl_inj h, fun h => by rw [h]⟩
set_option maxRecDepth 100000 in
set_option maxHeartbeats 8000000 in
theorem a_Parse (d : List B) (b : Value) (w : World) (hB : BysB w b d) (hcap : ∀ a l c, b = .slice a l c → l ≤ c) : Calls Tryz.prog 15 #[b] w fun e w' => PrR w.heap.size d e w' ∧ Below w.heap.size w w' := by
 have R0 := hp1_0 w (.cells (brow (zr 32) (zr 32) (zr 32) false) 43)
 have hw : Below w.heap.size w (w.alloc (.cells (brow (zr 32) (zr 32) (zr 32) false) 43)) := (Below.refl _ _).alloc (Nat.le_refl _) _
 replace hB := hB.keep hw
 go_enter Tryz.func15, Tryz.ntmps15
 go_upto_region 1 with (first | (refine wpList_alloc rfl 43 rfl (brow (zr 32) (zr 32) (zr 32) false) zBnA ?_) | fail)
 try simp only [size_alloc1, Act.put, List.setIfInBounds_toArray, List.set_cons_succ, List.set_cons_zero]
 generalize w.alloc (.cells (brow (zr 32) (zr 32) (zr 32) false) 43) = w1 at *
 go_wp2_with (fail)
 refine (a_codec w1).mono ?_
 rintro e_ w2 ⟨_, rfl, ⟨q, rfl, hq, hC⟩, hb_⟩
 have l0_ := lt_of_row R0
 have sz12 := hb_.size
 replace R0 := keep hb_ R0
 replace hB := hB.keep hb_
 replace hw := Below.after hw hb_
 clear hb_
 have cDe := hide (a_DecodeF bsl_flat d b w2 hC hB hcap)
 clear hC
 go_wp2_with (fail)
 refine cDe.out.mono ?_
 rintro e_ w3 ⟨hD, hb_⟩
 have sz2 := hw.size
 replace R0 := keep hb_ R0
 replace hw := Below.after hw hb_
 have sz3 := hb_.size
 clear hb_ cDe hB hcap
 obtain ⟨R, hR⟩ : ∃ R, dec8 bsl d 0 = R := ⟨_, rfl⟩
 unfold Dcr at hD
 rw [hR] at hD
 cases R with
 | some x =>
  obtain ⟨g, rfl, hg1, hg2⟩ := hD
  have hpr : Hid (par14 d = some x) := hide (by unfold par14; rw [hR])
  clear hR
  have rZ := hp1_0 w3 (.cells #[.int .u64 0, .slice none 0 0, .slice none 0 0] 78)
  have hne := neq_fault (.pointer (some ⟨g, 0, none⟩))
  have hone : (#[Value.int .u64 0, .slice none 0 0, .slice none 0 0] : Array Value).all (·.oneCell') = true := by simp [Value.oneCell']
  have hb5 : Below w3.heap.size w3 ((w3.alloc (.cells #[.int .u64 0, .slice none 0 0, .slice none 0 0] 78)).setRow w3.heap.size #[.int .u64 0, .slice none 0 0, .slice none 0 0]) := below_setRow ((Below.refl _ _).alloc (Nat.le_refl _) _) (Nat.le_refl _) #[.int .u64 0, .slice none 0 0, .slice none 0 0]
  have R05 := keep hb5 R0
  have hg5 := keep hb5 hg2
  replace hw := Below.after hw hb5
  have RF := hide (setRow_heap _ w.heap.size _ (brow (zr 32) (zr 32) (zr 32) false) _ _ R05)
  have hwF := hide (below_setRow (g := w.heap.size) hw (Nat.le_refl _) (brow (zr 32) (zr 32) (zr 32) false))
  have hgF := hide ((setRow_other _ w.heap.size g (brow (zr 32) (zr 32) (zr 32) false) (by omega)).trans hg5)
  clear hw hb5 hg5 hg2
  go_wp2_with (first | (refine wpList_store_row rfl 78 _ _ rfl w3.heap.size #[.int .u64 0, .slice none 0 0, .slice none 0 0] rfl rfl 78 _ rZ infoV rfl hone ?_) | (refine wpList_build_want rfl 43 _ rfl [] rfl (brow (zr 32) (zr 32) (zr 32) false) builtB0 ?_) | (refine wpList_store_row rfl 43 _ _ rfl w.heap.size (brow (zr 32) (zr 32) (zr 32) false) rfl rfl 43 _ R05 (info_brow _ _ _ _ (zr_len 32) (zr_len 32) (zr_len 32)) rfl (brow_one _ _ _ _) ?_) | fail)
  refine bodyPost_ret (results_row_slot Tryz.results15 _ _ w.heap.size _ _ _ _ _ rfl RF.out rfl Tryz.underlying43 rfl (info_brow _ _ _ _ (zr_len 32) (zr_len 32) (zr_len 32))) rfl ⟨?_, hwF.out⟩
  unfold PrR
  rw [hpr.out]
  exact ⟨g, rfl, by omega, hgF.out⟩
 | none =>
  obtain ⟨pv, fv, us, rfl, hO, hF⟩ := hD
  obtain ⟨hd0, i, s, o, fl, hfs, li, ls, lo, hfl⟩ := dec_bsl hR
  rw [hfs] at hO hF
  obtain ⟨pb, pc, rfl, hpb1, hpb2, hra⟩ := own_rangeR hO (by simp)
  have hu : us.length = 4 := hF.2.1
  obtain ⟨g0, c0, e0, hc0, hgb0, hgl0, hr0⟩ := own_range (hF.2.2.1 0 (by omega)) (by show 0 < i.length; omega)
  obtain ⟨g1, c1, e1, hc1, hgb1, hgl1, hr1⟩ := own_range (hF.2.2.1 1 (by omega)) (by show 0 < s.length; omega)
  obtain ⟨g3, c3, e3, hc3, hgb3, hgl3, hr3⟩ := own_range (hF.2.2.1 3 (by omega)) (by show 0 < o.length; omega)
  have hvr : vrk [⟨1, 2, 0, i⟩, ⟨2, 2, 0, s⟩, ⟨3, 0, fl, []⟩, ⟨4, 2, 0, o⟩] us 4 = [.int .u64 0, .slice (some ⟨g0, 0, none⟩) 32 c0, .slice none 0 0, .int .u64 0, .slice (some ⟨g1, 0, none⟩) 32 c1, .slice none 0 0, .int .u64 (fl : Int), gv us 2, .slice none 0 0, .int .u64 0, .slice (some ⟨g3, 0, none⟩) 32 c3, .slice none 0 0] := by
   have q0 : gv us 0 = .slice (some ⟨g0, 0, none⟩) 32 c0 := by rw [e0]; show Value.slice _ i.length _ = _; rw [li]
   have q1 : gv us 1 = .slice (some ⟨g1, 0, none⟩) 32 c1 := by rw [e1]; show Value.slice _ s.length _ = _; rw [ls]
   have q3 : gv us 3 = .slice (some ⟨g3, 0, none⟩) 32 c3 := by rw [e3]; show Value.slice _ o.length _ = _; rw [lo]
   rw [← q0, ← q1, ← q3]
   rfl
  have hra' : w3.rangeAt pb 0 [.int .u64 0, .slice (some ⟨g0, 0, none⟩) 32 c0, .slice none 0 0, .int .u64 0, .slice (some ⟨g1, 0, none⟩) 32 c1, .slice none 0 0, .int .u64 (fl : Int), gv us 2, .slice none 0 0, .int .u64 0, .slice (some ⟨g3, 0, none⟩) 32 c3, .slice none 0 0] := by rw [← hvr]; exact hra
  replace hra := hra'
  replace hr0 : w3.rangeAt g0 0 ((bl i).map (Value.int .u8)) := hr0
  replace hr1 : w3.rangeAt g1 0 ((bl s).map (Value.int .u8)) := hr1
  replace hr3 : w3.rangeAt g3 0 ((bl o).map (Value.int .u8)) := hr3
  replace hfs := hide hfs
  replace hR := hide hR
  clear hra' hvr e0 e1 e3 hO hF hd0 hu hc0 hc1 hc3
  generalize gv us 2 = uu2 at *
  have rZ := hp1_0 w3 (.cells #[.int .u64 0, .slice none 0 0, .slice none 0 0] 78)
  have hnn := neq_nils
  have hone : (#[Value.int .u64 0, .slice none 0 0, .slice (some ⟨pb, 0, none⟩) 4 pc] : Array Value).all (·.oneCell') = true := by simp [Value.oneCell']
  have hb5 : Below w3.heap.size w3 ((w3.alloc (.cells #[.int .u64 0, .slice none 0 0, .slice none 0 0] 78)).setRow w3.heap.size #[.int .u64 0, .slice none 0 0, .slice (some ⟨pb, 0, none⟩) 4 pc]) := below_setRow ((Below.refl _ _).alloc (Nat.le_refl _) _) (Nat.le_refl _) #[.int .u64 0, .slice none 0 0, .slice (some ⟨pb, 0, none⟩) 4 pc]
  have rV := setRow_heap _ w3.heap.size _ #[.int .u64 0, .slice none 0 0, .slice (some ⟨pb, 0, none⟩) 4 pc] _ _ rZ
  have l03 := lt_of_row R0
  replace R0 := keep hb5 R0
  replace hw := Below.after hw hb5
  replace hra := rangeS_keep2 hra hb5 hpb2
  replace hr0 := rangeS_keep2 hr0 hb5 hgl0
  replace hr1 := rangeS_keep2 hr1 hb5 hgl1
  replace hr3 := rangeS_keep2 hr3 hb5 hgl3
  have szV := hb5.size
  have lV3 := lt_of_row rV
  clear hb5
  have A1 := hide R0
  have A2 := hide hw
  have A3 := hide hra
  have A4 := hide hr0
  have A5 := hide hr1
  have A6 := hide hr3
  have A7 := hide rV
  have A8 := hide lV3
  clear R0 hw hra hr0 hr1 hr3 rV szV lV3
  go_upto_region 4 with (first | (refine wpList_store_row rfl 78 _ _ rfl w3.heap.size #[.int .u64 0, .slice none 0 0, .slice (some ⟨pb, 0, none⟩) 4 pc] rfl rfl 78 _ rZ infoV rfl hone ?_) | fail)
  clear rZ
  generalize (w3.alloc (.cells #[.int .u64 0, .slice none 0 0, .slice none 0 0] 78)).setRow w3.heap.size #[.int .u64 0, .slice none 0 0, .slice (some ⟨pb, 0, none⟩) 4 pc] = w6 at *
  have R0 := A1.out
  have hw := A2.out
  have hra := A3.out
  have hr0 := A4.out
  have hr1 := A5.out
  have hr3 := A6.out
  have rV := A7.out
  have lV6 := A8.out
  clear A1 A2 A3 A4 A5 A6 A7 A8
  generalize w3.heap.size = gV at *
  rcases (by omega : fl = 1 ∨ fl = 0) with hfl2 | hfl2
  ·subst hfl2
   have HS : (fun W : World => W.heap[gV]? = some (.cells #[.int .u64 0, .slice none 0 0, .slice (some ⟨pb, 0, none⟩) 4 pc] 78 (0, 0)) ∧ W.rangeAt pb 0 [.int .u64 0, .slice (some ⟨g0, 0, none⟩) 32 c0, .slice none 0 0, .int .u64 0, .slice (some ⟨g1, 0, none⟩) 32 c1, .slice none 0 0, .int .u64 1, uu2, .slice none 0 0, .int .u64 0, .slice (some ⟨g3, 0, none⟩) 32 c3, .slice none 0 0] ∧ W.rangeAt g0 0 ((bl i).map (Value.int .u8)) ∧ W.rangeAt g1 0 ((bl s).map (Value.int .u8)) ∧ W.rangeAt g3 0 ((bl o).map (Value.int .u8))) w6.drew := ⟨rV, hra, hr0, hr1, hr3⟩
   have hbd : Below w6.heap.size w6 w6.drew := below_drN (Below.refl _ _) 1
   replace R0 := keep hbd R0
   replace hw := Below.after hw hbd
   have szd := hbd.size
   have ak0 := arr_k g0 0 c0
   have ak1 := arr_k g1 0 c1
   have ak3 := arr_k g3 0 c3
   clear hbd rV hra hr0 hr1 hr3
   refine wp_region_held (S := fun W : World => W.heap[gV]? = some (.cells #[.int .u64 0, .slice none 0 0, .slice (some ⟨pb, 0, none⟩) 4 pc] 78 (0, 0)) ∧ W.rangeAt pb 0 [.int .u64 0, .slice (some ⟨g0, 0, none⟩) 32 c0, .slice none 0 0, .int .u64 0, .slice (some ⟨g1, 0, none⟩) 32 c1, .slice none 0 0, .int .u64 1, uu2, .slice none 0 0, .int .u64 0, .slice (some ⟨g3, 0, none⟩) 32 c3, .slice none 0 0] ∧ W.rangeAt g0 0 ((bl i).map (Value.int .u8)) ∧ W.rangeAt g1 0 ((bl s).map (Value.int .u8)) ∧ W.rangeAt g3 0 ((bl o).map (Value.int .u8))) (by kernel_rfl) ?_
   change wpAnyH _ _ _ _ _ _ _ _ (World.drew _)
   generalize w6.drew = w7 at *
   refine wpAnyH_take (i := 0) (v := ?v8) rfl (by kernel_rfl) (by kernel_rfl) (by kernel_rfl) (fun _ _ _ h => h) (Or.inl ⟨by rfl, ?y8⟩) HS ?r8
   case y8 =>
    intro w_ hS_
    go_simp
    try with_reducible rfl
   simp only [Act.put, List.getElem_toArray, List.getElem_cons_zero, List.setIfInBounds_toArray, List.set_cons_succ, List.set_cons_zero]
   refine wpAnyH_take (i := 1) (v := .slice (some ⟨pb, 0, none⟩) 4 pc) rfl (by kernel_rfl) (by kernel_rfl) (by kernel_rfl) (fun _ _ _ h => h) (Or.inl ⟨by rfl, ?y9⟩) HS ?r9
   case y9 =>
    intro w_ hS_
    have c_ := cell_of_row _ _ 2 _ _ _ hS_.1
    go_simp
    try with_reducible rfl
   simp only [Act.put, List.getElem_toArray, List.getElem_cons_succ, List.getElem_cons_zero, List.setIfInBounds_toArray, List.set_cons_succ, List.set_cons_zero]
   refine wpAnyH_take (i := 2) (v := ?v10) rfl (by kernel_rfl) (by kernel_rfl) (by kernel_rfl) (fun _ _ _ h => h) (Or.inl ⟨by rfl, ?y10⟩) HS ?r10
   case y10 =>
    intro w_ hS_
    go_simp
    try with_reducible rfl
   simp only [Act.put, List.getElem_toArray, List.getElem_cons_succ, List.getElem_cons_zero, List.setIfInBounds_toArray, List.set_cons_succ, List.set_cons_zero]
   refine wpAnyH_take (i := 3) (v := ?v11) rfl (by kernel_rfl) (by kernel_rfl) (by kernel_rfl) (fun _ _ _ h => h) (Or.inl ⟨by rfl, ?y11⟩) HS ?r11
   case y11 =>
    intro w_ hS_
    go_simp
    try with_reducible rfl
   simp only [Act.put, List.getElem_toArray, List.getElem_cons_succ, List.getElem_cons_zero, List.setIfInBounds_toArray, List.set_cons_succ, List.set_cons_zero]
   refine wpAnyH_take (i := 4) (v := .slice (some ⟨g0, 0, none⟩) 32 c0) rfl (by kernel_rfl) (by kernel_rfl) (by kernel_rfl) (fun _ _ _ h => h) (Or.inl ⟨by rfl, ?y12⟩) HS ?r12
   case y12 =>
    intro w_ hS_
    have c_ : w_.cell? ⟨pb, 1, none⟩ = some (.slice (some ⟨g0, 0, none⟩) 32 c0) := hS_.2.1 1 _ rfl
    go_simp
    try with_reducible rfl
   simp only [Act.put, List.getElem_toArray, List.getElem_cons_succ, List.getElem_cons_zero, List.setIfInBounds_toArray, List.set_cons_succ, List.set_cons_zero]
   refine wpAnyH_take (i := 5) (v := ?v13) rfl (by kernel_rfl) (by kernel_rfl) (by kernel_rfl) (fun _ _ _ h => h) (Or.inl ⟨by rfl, ?y13⟩) HS ?r13
   case y13 =>
    intro w_ hS_
    go_simp
    try with_reducible rfl
   simp only [Act.put, List.getElem_toArray, List.getElem_cons_succ, List.getElem_cons_zero, List.setIfInBounds_toArray, List.set_cons_succ, List.set_cons_zero]
   refine wpAnyH_take (i := 6) (v := .agg (irow .u8 (bl i))) rfl (by kernel_rfl) (by kernel_rfl) (by kernel_rfl) (fun _ _ _ h => h) (yieldsIf_load_mid (by rfl) 25 _ rfl g0 0 rfl ((bl i).map (Value.int .u8)) _ (fun _ h => h.2.2.1) Tryz.underlying25 rfl (infoKy _ (by rw [bl_len, li]))) HS ?_
   simp only [Act.put, List.getElem_toArray, List.getElem_cons_succ, List.getElem_cons_zero, List.setIfInBounds_toArray, List.set_cons_succ, List.set_cons_zero]
   refine wpAnyH_take (i := 7) (v := ?v15) rfl (by kernel_rfl) (by kernel_rfl) (by kernel_rfl) (fun _ _ _ h => h) (Or.inl ⟨by rfl, ?y15⟩) HS ?r15
   case y15 =>
    intro w_ hS_
    go_simp
    try with_reducible rfl
   simp only [Act.put, List.getElem_toArray, List.getElem_cons_succ, List.getElem_cons_zero, List.setIfInBounds_toArray, List.set_cons_succ, List.set_cons_zero]
   refine wpAnyH_take (i := 8) (v := .slice (some ⟨pb, 0, none⟩) 4 pc) rfl (by kernel_rfl) (by kernel_rfl) (by kernel_rfl) (fun _ _ _ h => h) (Or.inl ⟨by rfl, ?y16⟩) HS ?r16
   case y16 =>
    intro w_ hS_
    have c_ := cell_of_row _ _ 2 _ _ _ hS_.1
    go_simp
    try with_reducible rfl
   simp only [Act.put, List.getElem_toArray, List.getElem_cons_succ, List.getElem_cons_zero, List.setIfInBounds_toArray, List.set_cons_succ, List.set_cons_zero]
   refine wpAnyH_take (i := 9) (v := ?v17) rfl (by kernel_rfl) (by kernel_rfl) (by kernel_rfl) (fun _ _ _ h => h) (Or.inl ⟨by rfl, ?y17⟩) HS ?r17
   case y17 =>
    intro w_ hS_
    go_simp
    try with_reducible rfl
   simp only [Act.put, List.getElem_toArray, List.getElem_cons_succ, List.getElem_cons_zero, List.setIfInBounds_toArray, List.set_cons_succ, List.set_cons_zero]
   refine wpAnyH_take (i := 10) (v := ?v18) rfl (by kernel_rfl) (by kernel_rfl) (by kernel_rfl) (fun _ _ _ h => h) (Or.inl ⟨by rfl, ?y18⟩) HS ?r18
   case y18 =>
    intro w_ hS_
    go_simp
    try with_reducible rfl
   simp only [Act.put, List.getElem_toArray, List.getElem_cons_succ, List.getElem_cons_zero, List.setIfInBounds_toArray, List.set_cons_succ, List.set_cons_zero]
   refine wpAnyH_take (i := 11) (v := .slice (some ⟨g1, 0, none⟩) 32 c1) rfl (by kernel_rfl) (by kernel_rfl) (by kernel_rfl) (fun _ _ _ h => h) (Or.inl ⟨by rfl, ?y19⟩) HS ?r19
   case y19 =>
    intro w_ hS_
    have c_ : w_.cell? ⟨pb, 4, none⟩ = some (.slice (some ⟨g1, 0, none⟩) 32 c1) := hS_.2.1 4 _ rfl
    go_simp
    try with_reducible rfl
   simp only [Act.put, List.getElem_toArray, List.getElem_cons_succ, List.getElem_cons_zero, List.setIfInBounds_toArray, List.set_cons_succ, List.set_cons_zero]
   refine wpAnyH_take (i := 12) (v := ?v20) rfl (by kernel_rfl) (by kernel_rfl) (by kernel_rfl) (fun _ _ _ h => h) (Or.inl ⟨by rfl, ?y20⟩) HS ?r20
   case y20 =>
    intro w_ hS_
    go_simp
    try with_reducible rfl
   simp only [Act.put, List.getElem_toArray, List.getElem_cons_succ, List.getElem_cons_zero, List.setIfInBounds_toArray, List.set_cons_succ, List.set_cons_zero]
   refine wpAnyH_take (i := 13) (v := .agg (irow .u8 (bl s))) rfl (by kernel_rfl) (by kernel_rfl) (by kernel_rfl) (fun _ _ _ h => h) (yieldsIf_load_mid (by rfl) 25 _ rfl g1 0 rfl ((bl s).map (Value.int .u8)) _ (fun _ h => h.2.2.2.1) Tryz.underlying25 rfl (infoKy _ (by rw [bl_len, ls]))) HS ?_
   simp only [Act.put, List.getElem_toArray, List.getElem_cons_succ, List.getElem_cons_zero, List.setIfInBounds_toArray, List.set_cons_succ, List.set_cons_zero]
   refine wpAnyH_take (i := 14) (v := ?v22) rfl (by kernel_rfl) (by kernel_rfl) (by kernel_rfl) (fun _ _ _ h => h) (Or.inl ⟨by rfl, ?y22⟩) HS ?r22
   case y22 =>
    intro w_ hS_
    go_simp
    try with_reducible rfl
   simp only [Act.put, List.getElem_toArray, List.getElem_cons_succ, List.getElem_cons_zero, List.setIfInBounds_toArray, List.set_cons_succ, List.set_cons_zero]
   refine wpAnyH_take (i := 15) (v := .slice (some ⟨pb, 0, none⟩) 4 pc) rfl (by kernel_rfl) (by kernel_rfl) (by kernel_rfl) (fun _ _ _ h => h) (Or.inl ⟨by rfl, ?y23⟩) HS ?r23
   case y23 =>
    intro w_ hS_
    have c_ := cell_of_row _ _ 2 _ _ _ hS_.1
    go_simp
    try with_reducible rfl
   simp only [Act.put, List.getElem_toArray, List.getElem_cons_succ, List.getElem_cons_zero, List.setIfInBounds_toArray, List.set_cons_succ, List.set_cons_zero]
   refine wpAnyH_take (i := 16) (v := ?v24) rfl (by kernel_rfl) (by kernel_rfl) (by kernel_rfl) (fun _ _ _ h => h) (Or.inl ⟨by rfl, ?y24⟩) HS ?r24
   case y24 =>
    intro w_ hS_
    go_simp
    try with_reducible rfl
   simp only [Act.put, List.getElem_toArray, List.getElem_cons_succ, List.getElem_cons_zero, List.setIfInBounds_toArray, List.set_cons_succ, List.set_cons_zero]
   refine wpAnyH_take (i := 17) (v := ?v25) rfl (by kernel_rfl) (by kernel_rfl) (by kernel_rfl) (fun _ _ _ h => h) (Or.inl ⟨by rfl, ?y25⟩) HS ?r25
   case y25 =>
    intro w_ hS_
    go_simp
    try with_reducible rfl
   simp only [Act.put, List.getElem_toArray, List.getElem_cons_succ, List.getElem_cons_zero, List.setIfInBounds_toArray, List.set_cons_succ, List.set_cons_zero]
   refine wpAnyH_take (i := 18) (v := .int .u64 1) rfl (by kernel_rfl) (by kernel_rfl) (by kernel_rfl) (fun _ _ _ h => h) (Or.inl ⟨by rfl, ?y26⟩) HS ?r26
   case y26 =>
    intro w_ hS_
    have c_ : w_.cell? ⟨pb, 6, none⟩ = some (.int .u64 1) := hS_.2.1 6 _ rfl
    go_simp
    try with_reducible rfl
   simp only [Act.put, List.getElem_toArray, List.getElem_cons_succ, List.getElem_cons_zero, List.setIfInBounds_toArray, List.set_cons_succ, List.set_cons_zero]
   refine wpAnyH_take (i := 19) (v := .bool true) rfl (by kernel_rfl) (by kernel_rfl) (by kernel_rfl) (fun _ _ _ h => h) (Or.inl ⟨by rfl, ?y27⟩) HS ?r27
   case y27 =>
    intro w_ hS_
    go_simp
    try with_reducible rfl
   simp only [Act.put, List.getElem_toArray, List.getElem_cons_succ, List.getElem_cons_zero, List.setIfInBounds_toArray, List.set_cons_succ, List.set_cons_zero]
   refine wpAnyH_take (i := 20) (v := ?v28) rfl (by kernel_rfl) (by kernel_rfl) (by kernel_rfl) (fun _ _ _ h => h) (Or.inl ⟨by rfl, ?y28⟩) HS ?r28
   case y28 =>
    intro w_ hS_
    go_simp
    try with_reducible rfl
   simp only [Act.put, List.getElem_toArray, List.getElem_cons_succ, List.getElem_cons_zero, List.setIfInBounds_toArray, List.set_cons_succ, List.set_cons_zero]
   refine wpAnyH_take (i := 21) (v := .slice (some ⟨pb, 0, none⟩) 4 pc) rfl (by kernel_rfl) (by kernel_rfl) (by kernel_rfl) (fun _ _ _ h => h) (Or.inl ⟨by rfl, ?y29⟩) HS ?r29
   case y29 =>
    intro w_ hS_
    have c_ := cell_of_row _ _ 2 _ _ _ hS_.1
    go_simp
    try with_reducible rfl
   simp only [Act.put, List.getElem_toArray, List.getElem_cons_succ, List.getElem_cons_zero, List.setIfInBounds_toArray, List.set_cons_succ, List.set_cons_zero]
   refine wpAnyH_take (i := 22) (v := ?v30) rfl (by kernel_rfl) (by kernel_rfl) (by kernel_rfl) (fun _ _ _ h => h) (Or.inl ⟨by rfl, ?y30⟩) HS ?r30
   case y30 =>
    intro w_ hS_
    go_simp
    try with_reducible rfl
   simp only [Act.put, List.getElem_toArray, List.getElem_cons_succ, List.getElem_cons_zero, List.setIfInBounds_toArray, List.set_cons_succ, List.set_cons_zero]
   refine wpAnyH_take (i := 23) (v := ?v31) rfl (by kernel_rfl) (by kernel_rfl) (by kernel_rfl) (fun _ _ _ h => h) (Or.inl ⟨by rfl, ?y31⟩) HS ?r31
   case y31 =>
    intro w_ hS_
    go_simp
    try with_reducible rfl
   simp only [Act.put, List.getElem_toArray, List.getElem_cons_succ, List.getElem_cons_zero, List.setIfInBounds_toArray, List.set_cons_succ, List.set_cons_zero]
   refine wpAnyH_take (i := 24) (v := .slice (some ⟨g3, 0, none⟩) 32 c3) rfl (by kernel_rfl) (by kernel_rfl) (by kernel_rfl) (fun _ _ _ h => h) (Or.inl ⟨by rfl, ?y32⟩) HS ?r32
   case y32 =>
    intro w_ hS_
    have c_ : w_.cell? ⟨pb, 10, none⟩ = some (.slice (some ⟨g3, 0, none⟩) 32 c3) := hS_.2.1 10 _ rfl
    go_simp
    try with_reducible rfl
   simp only [Act.put, List.getElem_toArray, List.getElem_cons_succ, List.getElem_cons_zero, List.setIfInBounds_toArray, List.set_cons_succ, List.set_cons_zero]
   refine wpAnyH_take (i := 25) (v := ?v33) rfl (by kernel_rfl) (by kernel_rfl) (by kernel_rfl) (fun _ _ _ h => h) (Or.inl ⟨by rfl, ?y33⟩) HS ?r33
   case y33 =>
    intro w_ hS_
    go_simp
    try with_reducible rfl
   simp only [Act.put, List.getElem_toArray, List.getElem_cons_succ, List.getElem_cons_zero, List.setIfInBounds_toArray, List.set_cons_succ, List.set_cons_zero]
   refine wpAnyH_take (i := 26) (v := .agg (irow .u8 (bl o))) rfl (by kernel_rfl) (by kernel_rfl) (by kernel_rfl) (fun _ _ _ h => h) (yieldsIf_load_mid (by rfl) 25 _ rfl g3 0 rfl ((bl o).map (Value.int .u8)) _ (fun _ h => h.2.2.2.2) Tryz.underlying25 rfl (infoKy _ (by rw [bl_len, lo]))) HS ?_
   simp only [Act.put, List.getElem_toArray, List.getElem_cons_succ, List.getElem_cons_zero, List.setIfInBounds_toArray, List.set_cons_succ, List.set_cons_zero]
   refine wpAnyH_take (i := 27) (v := .agg (brow (bl i) (bl s) (bl o) true)) rfl (by kernel_rfl) (by kernel_rfl) (by kernel_rfl) (fun _ _ _ h => h) (Or.inl ⟨by rfl, ?y35⟩) HS ?r35
   case y35 =>
    intro w_ hS_
    simp only [List.getElem_toArray, List.getElem_cons_succ, List.getElem_cons_zero]
    exact run_build_op 43 _ rfl [(0, .agg (irow .u8 (bl i))), (1, .agg (irow .u8 (bl s))), (3, .bool true), (2, .agg (irow .u8 (bl o)))] rfl _ (builtB4 _ _ _ true (by rw [bl_len, li]) (by rw [bl_len, ls]) (by rw [bl_len, lo]))
   simp only [Act.put, List.getElem_toArray, List.getElem_cons_succ, List.getElem_cons_zero, List.setIfInBounds_toArray, List.set_cons_succ, List.set_cons_zero]
   refine wpAnyH_one (k := 28) (fuel := 1) (by kernel_rfl) rfl (by kernel_rfl) (fun K_ hK => ?_)
   refine wp_val_op (.pointer (some ⟨w7.heap.size, 0, none⟩)) (w' := w7.alloc (.cells (brow (zr 32) (zr 32) (zr 32) false) 43)) (by kernel_rfl) ?_
   have RB := hp1_0 w7 (.cells (brow (zr 32) (zr 32) (zr 32) false) 43)
   have l0_ := lt_of_row R0
   have hb_ : Below w7.heap.size w7 (w7.alloc (.cells (brow (zr 32) (zr 32) (zr 32) false) 43)) := (Below.refl _ _).alloc (Nat.le_refl _) _
   have HS' : (fun W : World => W.heap[gV]? = some (.cells #[.int .u64 0, .slice none 0 0, .slice (some ⟨pb, 0, none⟩) 4 pc] 78 (0, 0)) ∧ W.rangeAt pb 0 [.int .u64 0, .slice (some ⟨g0, 0, none⟩) 32 c0, .slice none 0 0, .int .u64 0, .slice (some ⟨g1, 0, none⟩) 32 c1, .slice none 0 0, .int .u64 1, uu2, .slice none 0 0, .int .u64 0, .slice (some ⟨g3, 0, none⟩) 32 c3, .slice none 0 0] ∧ W.rangeAt g0 0 ((bl i).map (Value.int .u8)) ∧ W.rangeAt g1 0 ((bl s).map (Value.int .u8)) ∧ W.rangeAt g3 0 ((bl o).map (Value.int .u8))) _ := ⟨keep hb_ HS.1, rangeS_keep2 HS.2.1 hb_ (by omega), rangeS_keep2 HS.2.2.1 hb_ (by omega), rangeS_keep2 HS.2.2.2.1 hb_ (by omega), rangeS_keep2 HS.2.2.2.2 hb_ (by omega)⟩
   replace HS := HS'
   clear HS'
   replace R0 := keep hb_ R0
   replace hw := Below.after hw hb_
   clear hb_
   refine hK _ _ HS ?_
   simp only [Act.put, List.getElem_toArray, List.getElem_cons_succ, List.getElem_cons_zero, List.setIfInBounds_toArray, List.set_cons_succ, List.set_cons_zero]
   clear hK
   generalize w7.alloc (.cells (brow (zr 32) (zr 32) (zr 32) false) 43) = w8 at *
   generalize w7.heap.size = gB at *
   refine wpAnyH_one (k := 29) (fuel := 0) (by kernel_rfl) rfl (by kernel_rfl) (fun K_ hK => ?_)
   refine wp_store_row 43 _ _ rfl gB (brow (bl i) (bl s) (bl o) true) rfl rfl 43 _ RB (info_brow _ _ _ _ (by rw [bl_len, li]) (by rw [bl_len, ls]) (by rw [bl_len, lo])) (by rw [brow_size _ _ _ _ (zr_len 32) (zr_len 32) (zr_len 32), brow_size _ _ _ _ (by rw [bl_len, li]) (by rw [bl_len, ls]) (by rw [bl_len, lo])]) (brow_one _ _ _ _) ?_
   have lV_ := lt_of_row HS.1
   have HS' : (fun W : World => W.heap[gV]? = some (.cells #[.int .u64 0, .slice none 0 0, .slice (some ⟨pb, 0, none⟩) 4 pc] 78 (0, 0)) ∧ W.rangeAt pb 0 [.int .u64 0, .slice (some ⟨g0, 0, none⟩) 32 c0, .slice none 0 0, .int .u64 0, .slice (some ⟨g1, 0, none⟩) 32 c1, .slice none 0 0, .int .u64 1, uu2, .slice none 0 0, .int .u64 0, .slice (some ⟨g3, 0, none⟩) 32 c3, .slice none 0 0] ∧ W.rangeAt g0 0 ((bl i).map (Value.int .u8)) ∧ W.rangeAt g1 0 ((bl s).map (Value.int .u8)) ∧ W.rangeAt g3 0 ((bl o).map (Value.int .u8))) (w8.setRow gB (brow (bl i) (bl s) (bl o) true)) := ⟨(setRow_other w8 gB gV (brow (bl i) (bl s) (bl o) true) (by omega)).trans HS.1, mv_range HS.2.1 (setRow_other w8 gB pb (brow (bl i) (bl s) (bl o) true) (by omega)), mv_range HS.2.2.1 (setRow_other w8 gB g0 (brow (bl i) (bl s) (bl o) true) (by omega)), mv_range HS.2.2.2.1 (setRow_other w8 gB g1 (brow (bl i) (bl s) (bl o) true) (by omega)), mv_range HS.2.2.2.2 (setRow_other w8 gB g3 (brow (bl i) (bl s) (bl o) true) (by omega))⟩
   replace R0 := (setRow_other w8 gB (w.heap.size) (brow (bl i) (bl s) (bl o) true) (by omega)).trans R0
   replace RB := setRow_heap w8 gB _ (brow (bl i) (bl s) (bl o) true) _ _ RB
   replace hw := below_setRow hw (show w.heap.size ≤ gB by omega) (brow (bl i) (bl s) (bl o) true)
   refine hK _ _ HS' ?_
   simp only [Act.put]
   clear hK HS HS'
   generalize w8.setRow gB (brow (bl i) (bl s) (bl o) true) = w9 at *
   refine wpAnyH_done (by kernel_rfl) ?_ _
   go_wp2_with (first | (refine wpList_load_want rfl 43 _ rfl gB rfl 43 (brow (bl i) (bl s) (bl o) true) (0, 0) _ RB Tryz.underlying43 rfl (info_brow _ _ _ _ (by rw [bl_len, li]) (by rw [bl_len, ls]) (by rw [bl_len, lo])) ?_) | fail)
   refine (a_canBe (bl i) (bl s) (bl o) true (by rw [bl_len, li]) (by rw [bl_len, ls]) (by rw [bl_len, lo]) w9).mono ?_
   rintro e_ w10 ⟨rfl, hb_⟩
   replace R0 := keep hb_ R0
   replace RB := keep hb_ RB
   replace hw := Below.after hw hb_
   clear hb_
   have hpr : Hid (par14 d = none) := hide (by unfold par14; rw [hR.out]; simp only; rw [hfs.out]; exact if_pos (.inl rfl))
   have hpb : Hid (pbn d = brow (bl i) (bl s) (bl o) true) := hide (by unfold pbn; rw [hfs.out]; rfl)
   have RF := hide (setRow_heap w10 w.heap.size _ (brow (bl i) (bl s) (bl o) true) _ _ R0)
   have hwF := hide (below_setRow (g := w.heap.size) hw (Nat.le_refl _) (brow (bl i) (bl s) (bl o) true))
   clear hw
   go_wp2_with (first | (refine wpList_load_want rfl 43 _ rfl gB rfl 43 (brow (bl i) (bl s) (bl o) true) (0, 0) _ RB Tryz.underlying43 rfl (info_brow _ _ _ _ (by rw [bl_len, li]) (by rw [bl_len, ls]) (by rw [bl_len, lo])) ?_) | (refine wpList_store_row rfl 43 _ _ rfl w.heap.size (brow (bl i) (bl s) (bl o) true) rfl rfl 43 _ R0 (info_brow _ _ _ _ (by rw [bl_len, li]) (by rw [bl_len, ls]) (by rw [bl_len, lo])) (by rw [brow_size _ _ _ _ (zr_len 32) (zr_len 32) (zr_len 32), brow_size _ _ _ _ (by rw [bl_len, li]) (by rw [bl_len, ls]) (by rw [bl_len, lo])]) (brow_one _ _ _ _) ?_) | fail)
   refine bodyPost_ret (results_row_slot Tryz.results15 _ _ w.heap.size _ _ _ _ _ rfl RF.out rfl Tryz.underlying43 rfl (info_brow _ _ _ _ (by rw [bl_len, li]) (by rw [bl_len, ls]) (by rw [bl_len, lo]))) rfl ⟨?_, hwF.out⟩
   unfold PrR
   rw [hpr.out]
   exact congrArg (fun x => Ending.returned (.tuple #[.agg x, .nilIface])) hpb.out.symm
  ·subst hfl2
   have HS : (fun W : World => W.heap[gV]? = some (.cells #[.int .u64 0, .slice none 0 0, .slice (some ⟨pb, 0, none⟩) 4 pc] 78 (0, 0)) ∧ W.rangeAt pb 0 [.int .u64 0, .slice (some ⟨g0, 0, none⟩) 32 c0, .slice none 0 0, .int .u64 0, .slice (some ⟨g1, 0, none⟩) 32 c1, .slice none 0 0, .int .u64 0, uu2, .slice none 0 0, .int .u64 0, .slice (some ⟨g3, 0, none⟩) 32 c3, .slice none 0 0] ∧ W.rangeAt g0 0 ((bl i).map (Value.int .u8)) ∧ W.rangeAt g1 0 ((bl s).map (Value.int .u8)) ∧ W.rangeAt g3 0 ((bl o).map (Value.int .u8))) w6.drew := ⟨rV, hra, hr0, hr1, hr3⟩
   have hbd : Below w6.heap.size w6 w6.drew := below_drN (Below.refl _ _) 1
   replace R0 := keep hbd R0
   replace hw := Below.after hw hbd
   have szd := hbd.size
   have ak0 := arr_k g0 0 c0
   have ak1 := arr_k g1 0 c1
   have ak3 := arr_k g3 0 c3
   clear hbd rV hra hr0 hr1 hr3
   refine wp_region_held (S := fun W : World => W.heap[gV]? = some (.cells #[.int .u64 0, .slice none 0 0, .slice (some ⟨pb, 0, none⟩) 4 pc] 78 (0, 0)) ∧ W.rangeAt pb 0 [.int .u64 0, .slice (some ⟨g0, 0, none⟩) 32 c0, .slice none 0 0, .int .u64 0, .slice (some ⟨g1, 0, none⟩) 32 c1, .slice none 0 0, .int .u64 0, uu2, .slice none 0 0, .int .u64 0, .slice (some ⟨g3, 0, none⟩) 32 c3, .slice none 0 0] ∧ W.rangeAt g0 0 ((bl i).map (Value.int .u8)) ∧ W.rangeAt g1 0 ((bl s).map (Value.int .u8)) ∧ W.rangeAt g3 0 ((bl o).map (Value.int .u8))) (by kernel_rfl) ?_
   change wpAnyH _ _ _ _ _ _ _ _ (World.drew _)
   generalize w6.drew = w7 at *
   refine wpAnyH_take (i := 0) (v := ?vz36) rfl (by kernel_rfl) (by kernel_rfl) (by kernel_rfl) (fun _ _ _ h => h) (Or.inl ⟨by rfl, ?yz36⟩) HS ?rz36
   case yz36 =>
    intro w_ hS_
    go_simp
    try with_reducible rfl
   simp only [Act.put, List.getElem_toArray, List.getElem_cons_zero, List.setIfInBounds_toArray, List.set_cons_succ, List.set_cons_zero]
   refine wpAnyH_take (i := 1) (v := .slice (some ⟨pb, 0, none⟩) 4 pc) rfl (by kernel_rfl) (by kernel_rfl) (by kernel_rfl) (fun _ _ _ h => h) (Or.inl ⟨by rfl, ?yz37⟩) HS ?rz37
   case yz37 =>
    intro w_ hS_
    have c_ := cell_of_row _ _ 2 _ _ _ hS_.1
    go_simp
    try with_reducible rfl
   simp only [Act.put, List.getElem_toArray, List.getElem_cons_succ, List.getElem_cons_zero, List.setIfInBounds_toArray, List.set_cons_succ, List.set_cons_zero]
   refine wpAnyH_take (i := 2) (v := ?vz38) rfl (by kernel_rfl) (by kernel_rfl) (by kernel_rfl) (fun _ _ _ h => h) (Or.inl ⟨by rfl, ?yz38⟩) HS ?rz38
   case yz38 =>
    intro w_ hS_
    go_simp
    try with_reducible rfl
   simp only [Act.put, List.getElem_toArray, List.getElem_cons_succ, List.getElem_cons_zero, List.setIfInBounds_toArray, List.set_cons_succ, List.set_cons_zero]
   refine wpAnyH_take (i := 3) (v := ?vz39) rfl (by kernel_rfl) (by kernel_rfl) (by kernel_rfl) (fun _ _ _ h => h) (Or.inl ⟨by rfl, ?yz39⟩) HS ?rz39
   case yz39 =>
    intro w_ hS_
    go_simp
    try with_reducible rfl
   simp only [Act.put, List.getElem_toArray, List.getElem_cons_succ, List.getElem_cons_zero, List.setIfInBounds_toArray, List.set_cons_succ, List.set_cons_zero]
   refine wpAnyH_take (i := 4) (v := .slice (some ⟨g0, 0, none⟩) 32 c0) rfl (by kernel_rfl) (by kernel_rfl) (by kernel_rfl) (fun _ _ _ h => h) (Or.inl ⟨by rfl, ?yz40⟩) HS ?rz40
   case yz40 =>
    intro w_ hS_
    have c_ : w_.cell? ⟨pb, 1, none⟩ = some (.slice (some ⟨g0, 0, none⟩) 32 c0) := hS_.2.1 1 _ rfl
    go_simp
    try with_reducible rfl
   simp only [Act.put, List.getElem_toArray, List.getElem_cons_succ, List.getElem_cons_zero, List.setIfInBounds_toArray, List.set_cons_succ, List.set_cons_zero]
   refine wpAnyH_take (i := 5) (v := ?vz41) rfl (by kernel_rfl) (by kernel_rfl) (by kernel_rfl) (fun _ _ _ h => h) (Or.inl ⟨by rfl, ?yz41⟩) HS ?rz41
   case yz41 =>
    intro w_ hS_
    go_simp
    try with_reducible rfl
   simp only [Act.put, List.getElem_toArray, List.getElem_cons_succ, List.getElem_cons_zero, List.setIfInBounds_toArray, List.set_cons_succ, List.set_cons_zero]
   refine wpAnyH_take (i := 6) (v := .agg (irow .u8 (bl i))) rfl (by kernel_rfl) (by kernel_rfl) (by kernel_rfl) (fun _ _ _ h => h) (yieldsIf_load_mid (by rfl) 25 _ rfl g0 0 rfl ((bl i).map (Value.int .u8)) _ (fun _ h => h.2.2.1) Tryz.underlying25 rfl (infoKy _ (by rw [bl_len, li]))) HS ?_
   simp only [Act.put, List.getElem_toArray, List.getElem_cons_succ, List.getElem_cons_zero, List.setIfInBounds_toArray, List.set_cons_succ, List.set_cons_zero]
   refine wpAnyH_take (i := 7) (v := ?vz43) rfl (by kernel_rfl) (by kernel_rfl) (by kernel_rfl) (fun _ _ _ h => h) (Or.inl ⟨by rfl, ?yz43⟩) HS ?rz43
   case yz43 =>
    intro w_ hS_
    go_simp
    try with_reducible rfl
   simp only [Act.put, List.getElem_toArray, List.getElem_cons_succ, List.getElem_cons_zero, List.setIfInBounds_toArray, List.set_cons_succ, List.set_cons_zero]
   refine wpAnyH_take (i := 8) (v := .slice (some ⟨pb, 0, none⟩) 4 pc) rfl (by kernel_rfl) (by kernel_rfl) (by kernel_rfl) (fun _ _ _ h => h) (Or.inl ⟨by rfl, ?yz44⟩) HS ?rz44
   case yz44 =>
    intro w_ hS_
    have c_ := cell_of_row _ _ 2 _ _ _ hS_.1
    go_simp
    try with_reducible rfl
   simp only [Act.put, List.getElem_toArray, List.getElem_cons_succ, List.getElem_cons_zero, List.setIfInBounds_toArray, List.set_cons_succ, List.set_cons_zero]
   refine wpAnyH_take (i := 9) (v := ?vz45) rfl (by kernel_rfl) (by kernel_rfl) (by kernel_rfl) (fun _ _ _ h => h) (Or.inl ⟨by rfl, ?yz45⟩) HS ?rz45
   case yz45 =>
    intro w_ hS_
    go_simp
    try with_reducible rfl
   simp only [Act.put, List.getElem_toArray, List.getElem_cons_succ, List.getElem_cons_zero, List.setIfInBounds_toArray, List.set_cons_succ, List.set_cons_zero]
   refine wpAnyH_take (i := 10) (v := ?vz46) rfl (by kernel_rfl) (by kernel_rfl) (by kernel_rfl) (fun _ _ _ h => h) (Or.inl ⟨by rfl, ?yz46⟩) HS ?rz46
   case yz46 =>
    intro w_ hS_
    go_simp
    try with_reducible rfl
   simp only [Act.put, List.getElem_toArray, List.getElem_cons_succ, List.getElem_cons_zero, List.setIfInBounds_toArray, List.set_cons_succ, List.set_cons_zero]
   refine wpAnyH_take (i := 11) (v := .slice (some ⟨g1, 0, none⟩) 32 c1) rfl (by kernel_rfl) (by kernel_rfl) (by kernel_rfl) (fun _ _ _ h => h) (Or.inl ⟨by rfl, ?yz47⟩) HS ?rz47
   case yz47 =>
    intro w_ hS_
    have c_ : w_.cell? ⟨pb, 4, none⟩ = some (.slice (some ⟨g1, 0, none⟩) 32 c1) := hS_.2.1 4 _ rfl
    go_simp
    try with_reducible rfl
   simp only [Act.put, List.getElem_toArray, List.getElem_cons_succ, List.getElem_cons_zero, List.setIfInBounds_toArray, List.set_cons_succ, List.set_cons_zero]
   refine wpAnyH_take (i := 12) (v := ?vz48) rfl (by kernel_rfl) (by kernel_rfl) (by kernel_rfl) (fun _ _ _ h => h) (Or.inl ⟨by rfl, ?yz48⟩) HS ?rz48
   case yz48 =>
    intro w_ hS_
    go_simp
    try with_reducible rfl
   simp only [Act.put, List.getElem_toArray, List.getElem_cons_succ, List.getElem_cons_zero, List.setIfInBounds_toArray, List.set_cons_succ, List.set_cons_zero]
   refine wpAnyH_take (i := 13) (v := .agg (irow .u8 (bl s))) rfl (by kernel_rfl) (by kernel_rfl) (by kernel_rfl) (fun _ _ _ h => h) (yieldsIf_load_mid (by rfl) 25 _ rfl g1 0 rfl ((bl s).map (Value.int .u8)) _ (fun _ h => h.2.2.2.1) Tryz.underlying25 rfl (infoKy _ (by rw [bl_len, ls]))) HS ?_
   simp only [Act.put, List.getElem_toArray, List.getElem_cons_succ, List.getElem_cons_zero, List.setIfInBounds_toArray, List.set_cons_succ, List.set_cons_zero]
   refine wpAnyH_take (i := 14) (v := ?vz50) rfl (by kernel_rfl) (by kernel_rfl) (by kernel_rfl) (fun _ _ _ h => h) (Or.inl ⟨by rfl, ?yz50⟩) HS ?rz50
   case yz50 =>
    intro w_ hS_
    go_simp
    try with_reducible rfl
   simp only [Act.put, List.getElem_toArray, List.getElem_cons_succ, List.getElem_cons_zero, List.setIfInBounds_toArray, List.set_cons_succ, List.set_cons_zero]
   refine wpAnyH_take (i := 15) (v := .slice (some ⟨pb, 0, none⟩) 4 pc) rfl (by kernel_rfl) (by kernel_rfl) (by kernel_rfl) (fun _ _ _ h => h) (Or.inl ⟨by rfl, ?yz51⟩) HS ?rz51
   case yz51 =>
    intro w_ hS_
    have c_ := cell_of_row _ _ 2 _ _ _ hS_.1
    go_simp
    try with_reducible rfl
   simp only [Act.put, List.getElem_toArray, List.getElem_cons_succ, List.getElem_cons_zero, List.setIfInBounds_toArray, List.set_cons_succ, List.set_cons_zero]
   refine wpAnyH_take (i := 16) (v := ?vz52) rfl (by kernel_rfl) (by kernel_rfl) (by kernel_rfl) (fun _ _ _ h => h) (Or.inl ⟨by rfl, ?yz52⟩) HS ?rz52
   case yz52 =>
    intro w_ hS_
    go_simp
    try with_reducible rfl
   simp only [Act.put, List.getElem_toArray, List.getElem_cons_succ, List.getElem_cons_zero, List.setIfInBounds_toArray, List.set_cons_succ, List.set_cons_zero]
   refine wpAnyH_take (i := 17) (v := ?vz53) rfl (by kernel_rfl) (by kernel_rfl) (by kernel_rfl) (fun _ _ _ h => h) (Or.inl ⟨by rfl, ?yz53⟩) HS ?rz53
   case yz53 =>
    intro w_ hS_
    go_simp
    try with_reducible rfl
   simp only [Act.put, List.getElem_toArray, List.getElem_cons_succ, List.getElem_cons_zero, List.setIfInBounds_toArray, List.set_cons_succ, List.set_cons_zero]
   refine wpAnyH_take (i := 18) (v := .int .u64 0) rfl (by kernel_rfl) (by kernel_rfl) (by kernel_rfl) (fun _ _ _ h => h) (Or.inl ⟨by rfl, ?yz54⟩) HS ?rz54
   case yz54 =>
    intro w_ hS_
    have c_ : w_.cell? ⟨pb, 6, none⟩ = some (.int .u64 0) := hS_.2.1 6 _ rfl
    go_simp
    try with_reducible rfl
   simp only [Act.put, List.getElem_toArray, List.getElem_cons_succ, List.getElem_cons_zero, List.setIfInBounds_toArray, List.set_cons_succ, List.set_cons_zero]
   refine wpAnyH_take (i := 19) (v := .bool false) rfl (by kernel_rfl) (by kernel_rfl) (by kernel_rfl) (fun _ _ _ h => h) (Or.inl ⟨by rfl, ?yz55⟩) HS ?rz55
   case yz55 =>
    intro w_ hS_
    go_simp
    try with_reducible rfl
   simp only [Act.put, List.getElem_toArray, List.getElem_cons_succ, List.getElem_cons_zero, List.setIfInBounds_toArray, List.set_cons_succ, List.set_cons_zero]
   refine wpAnyH_take (i := 20) (v := ?vz56) rfl (by kernel_rfl) (by kernel_rfl) (by kernel_rfl) (fun _ _ _ h => h) (Or.inl ⟨by rfl, ?yz56⟩) HS ?rz56
   case yz56 =>
    intro w_ hS_
    go_simp
    try with_reducible rfl
   simp only [Act.put, List.getElem_toArray, List.getElem_cons_succ, List.getElem_cons_zero, List.setIfInBounds_toArray, List.set_cons_succ, List.set_cons_zero]
   refine wpAnyH_take (i := 21) (v := .slice (some ⟨pb, 0, none⟩) 4 pc) rfl (by kernel_rfl) (by kernel_rfl) (by kernel_rfl) (fun _ _ _ h => h) (Or.inl ⟨by rfl, ?yz57⟩) HS ?rz57
   case yz57 =>
    intro w_ hS_
    have c_ := cell_of_row _ _ 2 _ _ _ hS_.1
    go_simp
    try with_reducible rfl
   simp only [Act.put, List.getElem_toArray, List.getElem_cons_succ, List.getElem_cons_zero, List.setIfInBounds_toArray, List.set_cons_succ, List.set_cons_zero]
   refine wpAnyH_take (i := 22) (v := ?vz58) rfl (by kernel_rfl) (by kernel_rfl) (by kernel_rfl) (fun _ _ _ h => h) (Or.inl ⟨by rfl, ?yz58⟩) HS ?rz58
   case yz58 =>
    intro w_ hS_
    go_simp
    try with_reducible rfl
   simp only [Act.put, List.getElem_toArray, List.getElem_cons_succ, List.getElem_cons_zero, List.setIfInBounds_toArray, List.set_cons_succ, List.set_cons_zero]
   refine wpAnyH_take (i := 23) (v := ?vz59) rfl (by kernel_rfl) (by kernel_rfl) (by kernel_rfl) (fun _ _ _ h => h) (Or.inl ⟨by rfl, ?yz59⟩) HS ?rz59
   case yz59 =>
    intro w_ hS_
    go_simp
    try with_reducible rfl
   simp only [Act.put, List.getElem_toArray, List.getElem_cons_succ, List.getElem_cons_zero, List.setIfInBounds_toArray, List.set_cons_succ, List.set_cons_zero]
   refine wpAnyH_take (i := 24) (v := .slice (some ⟨g3, 0, none⟩) 32 c3) rfl (by kernel_rfl) (by kernel_rfl) (by kernel_rfl) (fun _ _ _ h => h) (Or.inl ⟨by rfl, ?yz60⟩) HS ?rz60
   case yz60 =>
    intro w_ hS_
    have c_ : w_.cell? ⟨pb, 10, none⟩ = some (.slice (some ⟨g3, 0, none⟩) 32 c3) := hS_.2.1 10 _ rfl
    go_simp
    try with_reducible rfl
   simp only [Act.put, List.getElem_toArray, List.getElem_cons_succ, List.getElem_cons_zero, List.setIfInBounds_toArray, List.set_cons_succ, List.set_cons_zero]
   refine wpAnyH_take (i := 25) (v := ?vz61) rfl (by kernel_rfl) (by kernel_rfl) (by kernel_rfl) (fun _ _ _ h => h) (Or.inl ⟨by rfl, ?yz61⟩) HS ?rz61
   case yz61 =>
    intro w_ hS_
    go_simp
    try with_reducible rfl
   simp only [Act.put, List.getElem_toArray, List.getElem_cons_succ, List.getElem_cons_zero, List.setIfInBounds_toArray, List.set_cons_succ, List.set_cons_zero]
   refine wpAnyH_take (i := 26) (v := .agg (irow .u8 (bl o))) rfl (by kernel_rfl) (by kernel_rfl) (by kernel_rfl) (fun _ _ _ h => h) (yieldsIf_load_mid (by rfl) 25 _ rfl g3 0 rfl ((bl o).map (Value.int .u8)) _ (fun _ h => h.2.2.2.2) Tryz.underlying25 rfl (infoKy _ (by rw [bl_len, lo]))) HS ?_
   simp only [Act.put, List.getElem_toArray, List.getElem_cons_succ, List.getElem_cons_zero, List.setIfInBounds_toArray, List.set_cons_succ, List.set_cons_zero]
   refine wpAnyH_take (i := 27) (v := .agg (brow (bl i) (bl s) (bl o) false)) rfl (by kernel_rfl) (by kernel_rfl) (by kernel_rfl) (fun _ _ _ h => h) (Or.inl ⟨by rfl, ?yz63⟩) HS ?rz63
   case yz63 =>
    intro w_ hS_
    simp only [List.getElem_toArray, List.getElem_cons_succ, List.getElem_cons_zero]
    exact run_build_op 43 _ rfl [(0, .agg (irow .u8 (bl i))), (1, .agg (irow .u8 (bl s))), (3, .bool false), (2, .agg (irow .u8 (bl o)))] rfl _ (builtB4 _ _ _ false (by rw [bl_len, li]) (by rw [bl_len, ls]) (by rw [bl_len, lo]))
   simp only [Act.put, List.getElem_toArray, List.getElem_cons_succ, List.getElem_cons_zero, List.setIfInBounds_toArray, List.set_cons_succ, List.set_cons_zero]
   refine wpAnyH_one (k := 28) (fuel := 1) (by kernel_rfl) rfl (by kernel_rfl) (fun K_ hK => ?_)
   refine wp_val_op (.pointer (some ⟨w7.heap.size, 0, none⟩)) (w' := w7.alloc (.cells (brow (zr 32) (zr 32) (zr 32) false) 43)) (by kernel_rfl) ?_
   have RB := hp1_0 w7 (.cells (brow (zr 32) (zr 32) (zr 32) false) 43)
   have l0_ := lt_of_row R0
   have hb_ : Below w7.heap.size w7 (w7.alloc (.cells (brow (zr 32) (zr 32) (zr 32) false) 43)) := (Below.refl _ _).alloc (Nat.le_refl _) _
   have HS' : (fun W : World => W.heap[gV]? = some (.cells #[.int .u64 0, .slice none 0 0, .slice (some ⟨pb, 0, none⟩) 4 pc] 78 (0, 0)) ∧ W.rangeAt pb 0 [.int .u64 0, .slice (some ⟨g0, 0, none⟩) 32 c0, .slice none 0 0, .int .u64 0, .slice (some ⟨g1, 0, none⟩) 32 c1, .slice none 0 0, .int .u64 0, uu2, .slice none 0 0, .int .u64 0, .slice (some ⟨g3, 0, none⟩) 32 c3, .slice none 0 0] ∧ W.rangeAt g0 0 ((bl i).map (Value.int .u8)) ∧ W.rangeAt g1 0 ((bl s).map (Value.int .u8)) ∧ W.rangeAt g3 0 ((bl o).map (Value.int .u8))) _ := ⟨keep hb_ HS.1, rangeS_keep2 HS.2.1 hb_ (by omega), rangeS_keep2 HS.2.2.1 hb_ (by omega), rangeS_keep2 HS.2.2.2.1 hb_ (by omega), rangeS_keep2 HS.2.2.2.2 hb_ (by omega)⟩
   replace HS := HS'
   clear HS'
   replace R0 := keep hb_ R0
   replace hw := Below.after hw hb_
   clear hb_
   refine hK _ _ HS ?_
   simp only [Act.put, List.getElem_toArray, List.getElem_cons_succ, List.getElem_cons_zero, List.setIfInBounds_toArray, List.set_cons_succ, List.set_cons_zero]
   clear hK
   generalize w7.alloc (.cells (brow (zr 32) (zr 32) (zr 32) false) 43) = w8 at *
   generalize w7.heap.size = gB at *
   refine wpAnyH_one (k := 29) (fuel := 0) (by kernel_rfl) rfl (by kernel_rfl) (fun K_ hK => ?_)
   refine wp_store_row 43 _ _ rfl gB (brow (bl i) (bl s) (bl o) false) rfl rfl 43 _ RB (info_brow _ _ _ _ (by rw [bl_len, li]) (by rw [bl_len, ls]) (by rw [bl_len, lo])) (by rw [brow_size _ _ _ _ (zr_len 32) (zr_len 32) (zr_len 32), brow_size _ _ _ _ (by rw [bl_len, li]) (by rw [bl_len, ls]) (by rw [bl_len, lo])]) (brow_one _ _ _ _) ?_
   have lV_ := lt_of_row HS.1
   have HS' : (fun W : World => W.heap[gV]? = some (.cells #[.int .u64 0, .slice none 0 0, .slice (some ⟨pb, 0, none⟩) 4 pc] 78 (0, 0)) ∧ W.rangeAt pb 0 [.int .u64 0, .slice (some ⟨g0, 0, none⟩) 32 c0, .slice none 0 0, .int .u64 0, .slice (some ⟨g1, 0, none⟩) 32 c1, .slice none 0 0, .int .u64 0, uu2, .slice none 0 0, .int .u64 0, .slice (some ⟨g3, 0, none⟩) 32 c3, .slice none 0 0] ∧ W.rangeAt g0 0 ((bl i).map (Value.int .u8)) ∧ W.rangeAt g1 0 ((bl s).map (Value.int .u8)) ∧ W.rangeAt g3 0 ((bl o).map (Value.int .u8))) (w8.setRow gB (brow (bl i) (bl s) (bl o) false)) := ⟨(setRow_other w8 gB gV (brow (bl i) (bl s) (bl o) false) (by omega)).trans HS.1, mv_range HS.2.1 (setRow_other w8 gB pb (brow (bl i) (bl s) (bl o) false) (by omega)), mv_range HS.2.2.1 (setRow_other w8 gB g0 (brow (bl i) (bl s) (bl o) false) (by omega)), mv_range HS.2.2.2.1 (setRow_other w8 gB g1 (brow (bl i) (bl s) (bl o) false) (by omega)), mv_range HS.2.2.2.2 (setRow_other w8 gB g3 (brow (bl i) (bl s) (bl o) false) (by omega))⟩
   replace R0 := (setRow_other w8 gB (w.heap.size) (brow (bl i) (bl s) (bl o) false) (by omega)).trans R0
   replace RB := setRow_heap w8 gB _ (brow (bl i) (bl s) (bl o) false) _ _ RB
   replace hw := below_setRow hw (show w.heap.size ≤ gB by omega) (brow (bl i) (bl s) (bl o) false)
   refine hK _ _ HS' ?_
   simp only [Act.put]
   clear hK HS HS'
   generalize w8.setRow gB (brow (bl i) (bl s) (bl o) false) = w9 at *
   refine wpAnyH_done (by kernel_rfl) ?_ _
   go_wp2_with (first | (refine wpList_load_want rfl 43 _ rfl gB rfl 43 (brow (bl i) (bl s) (bl o) false) (0, 0) _ RB Tryz.underlying43 rfl (info_brow _ _ _ _ (by rw [bl_len, li]) (by rw [bl_len, ls]) (by rw [bl_len, lo])) ?_) | fail)
   refine (a_canBe (bl i) (bl s) (bl o) false (by rw [bl_len, li]) (by rw [bl_len, ls]) (by rw [bl_len, lo]) w9).mono ?_
   rintro e_ w10 ⟨rfl, hb_⟩
   replace R0 := keep hb_ R0
   replace RB := keep hb_ RB
   replace hw := Below.after hw hb_
   clear hb_
   have hpb : Hid (pbn d = brow (bl i) (bl s) (bl o) false) := hide (by unfold pbn; rw [hfs.out]; rfl)
   by_cases ho0 : o = z32
   ·have hpr : Hid (par14 d = none) := hide (by unfold par14; rw [hR.out]; simp only; rw [hfs.out]; exact if_pos (.inr ho0))
    have hdz : decide (bl o = zr 32) = true := by simpa using zr_bl.2 ho0
    rw [hdz]
    replace ho0 := hide ho0
    have RF := hide (setRow_heap w10 w.heap.size _ (brow (bl i) (bl s) (bl o) false) _ _ R0)
    have hwF := hide (below_setRow (g := w.heap.size) hw (Nat.le_refl _) (brow (bl i) (bl s) (bl o) false))
    clear hw
    go_wp2_with (first | (refine wpList_load_want rfl 43 _ rfl gB rfl 43 (brow (bl i) (bl s) (bl o) false) (0, 0) _ RB Tryz.underlying43 rfl (info_brow _ _ _ _ (by rw [bl_len, li]) (by rw [bl_len, ls]) (by rw [bl_len, lo])) ?_) | (refine wpList_store_row rfl 43 _ _ rfl w.heap.size (brow (bl i) (bl s) (bl o) false) rfl rfl 43 _ R0 (info_brow _ _ _ _ (by rw [bl_len, li]) (by rw [bl_len, ls]) (by rw [bl_len, lo])) (by rw [brow_size _ _ _ _ (zr_len 32) (zr_len 32) (zr_len 32), brow_size _ _ _ _ (by rw [bl_len, li]) (by rw [bl_len, ls]) (by rw [bl_len, lo])]) (brow_one _ _ _ _) ?_) | fail)
    refine bodyPost_ret (results_row_slot Tryz.results15 _ _ w.heap.size _ _ _ _ _ rfl RF.out rfl Tryz.underlying43 rfl (info_brow _ _ _ _ (by rw [bl_len, li]) (by rw [bl_len, ls]) (by rw [bl_len, lo]))) rfl ⟨?_, hwF.out⟩
    unfold PrR
    rw [hpr.out]
    exact congrArg (fun x => Ending.returned (.tuple #[.agg x, .nilIface])) hpb.out.symm
   ·have hpr : Hid (par14 d = some ⟨0, 70, 140⟩) := hide (by unfold par14; rw [hR.out]; simp only; rw [hfs.out]; exact if_neg (fun h => h.elim (fun h => by cases h) ho0))
    have hdz : decide (bl o = zr 32) = false := by simpa using fun h => ho0 (zr_bl.1 h)
    rw [hdz]
    have rF := hp1_0 w10 (.cells (frw ⟨0, 70, 140⟩) 35)
    have hbF : Below w10.heap.size w10 (w10.alloc (.cells (frw ⟨0, 70, 140⟩) 35)) := (Below.refl _ _).alloc (Nat.le_refl _) _
    have l10 := lt_of_row R0
    have szw10 := hw.size
    have R02 := keep hbF R0
    replace hw := Below.after hw hbF
    have RF := hide (setRow_heap _ w.heap.size _ (brow (zr 32) (zr 32) (zr 32) false) _ _ R02)
    have hwF := hide (below_setRow (g := w.heap.size) hw (Nat.le_refl _) (brow (zr 32) (zr 32) (zr 32) false))
    have hgF := hide ((setRow_other _ w.heap.size w10.heap.size (brow (zr 32) (zr 32) (zr 32) false) (by omega)).trans rF)
    clear hw hbF rF RB
    unfold frw at *
    go_wp2_with (first | (refine wpList_build_want rfl 43 _ rfl [] rfl (brow (zr 32) (zr 32) (zr 32) false) builtB0 ?_) | (refine wpList_store_row rfl 43 _ _ rfl w.heap.size (brow (zr 32) (zr 32) (zr 32) false) rfl rfl 43 _ R02 (info_brow _ _ _ _ (zr_len 32) (zr_len 32) (zr_len 32)) rfl (brow_one _ _ _ _) ?_) | fail)
    refine bodyPost_ret (results_row_slot Tryz.results15 _ _ w.heap.size _ _ _ _ _ rfl RF.out rfl Tryz.underlying43 rfl (info_brow _ _ _ _ (zr_len 32) (zr_len 32) (zr_len 32))) rfl ⟨?_, hwF.out⟩
    unfold PrR
    rw [hpr.out]
    exact ⟨_, rfl, szw10, hgF.out⟩
end Go.Proofs.YtjoohgkgkabbpaaGreatDoor
namespace Go.Proofs.YtjoohgkgkabbpaaGreatDoor
set_option maxRecDepth 100000
open Go Go.RowKit Go.Sort
attribute [local go_sem] setCell_drewN alloc_drewN
end Go.Proofs.YtjoohgkgkabbpaaGreatDoor

