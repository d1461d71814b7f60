import Derived.Test.YtleeadbceljfbaaGreatDoorCJre
import Derived.Test.YtleeadbceljfbaaGreatDoorCQb4
import Derived.OwnWalk
import Derived.Deep.Cut
import Derived.Deep.RegionHeld3
namespace Go.Proofs.YtleeadbceljfbaaGreatDoor
set_option maxRecDepth 100000
open Go Go.RowKit Go.Sort
attribute [local go_sem] setCell_drewN alloc_drewN
theorem wp_copyR {P : Program} {w : World} {o : Oper} {a : Act} {K : Act → World → Prop} {Q : Exit → Act → World → Prop} (d s : Operand) (dT sT : TypeId)
   (ho : o.op = .call { callee := .builtin .copy, args := #[d, s], argTypes := #[dT, sT] }) (elem : TypeId) (hu : P.underlying dT = some (.slice elem)) (hsz : (P.info? elem).map (·.size) = some 1)
   (g off dLen dCap : Nat) (ad : Addr) (sLen sCap : Nat) (hd : a.eval d = .slice (some ⟨g, off, none⟩) dLen dCap) (hs : a.eval s = .slice (some ad) sLen sCap) (cur : Array Value) (t : TypeId) (hg : w.heap[g]? = some (.cells cur t (0, 0))) (cs : List Value) (hn : cs.length = Nat.min sLen dLen)
   (hsrc : ∀ j v, cs[j]? = some v → w.cell? (ad.add j) = some v) (hfit : off + cs.length ≤ cur.size) (h1 : ∀ v ∈ cs, v.oneCell' = true)
   (h : K (a.put o.dst (goInt cs.length)) (w.setRow g (cur.toList.take off ++ cs ++ cur.toList.drop (off + cs.length)).toArray)) : o.wp P a w K Q := by
 have hrun := run_copy_row (P := P) w dT sT o.type elem g off dLen dCap ad sLen sCap cur t cs hu hsz hg hn hsrc hfit h1
 rw [List.append_assoc] at h
 unfold Oper.wp
 simp [execOp, ho, resolve, invoke, builtin, hd, hs, hrun, Result.andThen]
 exact h
theorem num_field {no : Int} {f : Fd} {at_ : Int} (h : dsl (.mk no 2 0 4294967295 []) f at_ = none) (hf : fits f) : ∃ n : Nat, f = ⟨no, 5, n, []⟩ ∧ n < 4294967296 := by
 obtain ⟨h1, h2, h3⟩ := dsl_none h
 obtain ⟨fno, fty, fnum, fdat⟩ := f
 have e1 : fno = no := h1
 have e2 : fty = 5 := h2
 subst e1 e2
 have e3 := wth_zero (show wth (fnum : Int) 0 4294967295 = 0 from h3)
 have e4 : fdat = [] := by
   unfold fits at hf
   simp at hf
   exact hf.1
 subst e4
 exact ⟨fnum, rfl, by omega⟩
theorem dec_hdr {d : List B} (h : dec8 hdr d 0 = none) : der (dwh d) = 0 ∧ ∃ (pub : List B) (prev m : Nat), dfs (dwh d) = [⟨1, 2, 0, pub⟩, ⟨2, 5, prev, []⟩, ⟨3, 5, m, []⟩] ∧ pub.length = 32 ∧ prev < 4294967296 ∧ m < 4294967296 := by
 unfold dec8 at h
 by_cases hd : der (dwh d) = 0
 · rw [if_neg (by simpa using hd)] at h
   have hft : ∀ f ∈ dfs (dwh d), fits f := fun f hf => (ech_all _ 0 (by decide) (eer_ok.1 (dec_enc hd).1).2.1 f hf).2.2.2
   refine ⟨hd, ?_⟩
   generalize dfs (dwh d) = fs at *
   unfold hdr at h
   match fs, h, hft with
   | [], h, _ => cases h
   | [f1], h, _ => cases (dcF_cons h).2
   | [f1, f2], h, _ => cases (dcF_cons (dcF_cons h).2).2
   | f1 :: f2 :: f3 :: f4 :: r, h, _ => cases (dcF_cons (dcF_cons (dcF_cons h).2).2).2
   | [f1, f2, f3], h, hft =>
     obtain ⟨a1, h⟩ := dcF_cons h
     obtain ⟨a2, h⟩ := dcF_cons h
     obtain ⟨a3, h⟩ := dcF_cons h
     obtain ⟨i, rfl, li⟩ := key_field a1 (hft _ (by simp))
     obtain ⟨n, rfl, ln⟩ := num_field a2 (hft _ (by simp))
     obtain ⟨m, rfl, lm⟩ := num_field a3 (hft _ (by simp))
     exact ⟨i, n, m, rfl, li, ln, lm⟩
 · rw [if_pos hd] at h; cases h
theorem hrw_size (pub : List B) (hp : pub.length = 32) (prev m : Nat) : (hrw pub prev m).size = 34 := by
 have : (irow .u8 (bl pub)).size = 32 := by simp [irow, bl, hp]
 unfold hrw
 rw [Array.size_append, this]
 rfl
theorem hrw_info (pub : List B) (hp : pub.length = 32) (prev m : Nat) : (Tryz.prog.info? 37).map (·.size) = some (hrw pub prev m).size := by
 rw [hrw_size pub hp]
 kernel_rfl
theorem hrw_one (pub : List B) (prev m : Nat) : (hrw pub prev m).all (·.oneCell') = true := by
 unfold hrw
 rw [Array.all_append, irow_one]
 simp [Value.oneCell']
theorem hrw_copy (pub : List B) (hp : pub.length = 32) (prev m : Nat) : ((hrw z32 prev m).toList.take 0 ++ (bl pub).map (Value.int .u8) ++ (hrw z32 prev m).toList.drop (0 + ((bl pub).map (Value.int .u8)).length)).toArray = hrw pub prev m := by
 have e : (hrw z32 prev m).toList.drop 32 = [.int .u32 (prev : Int), .int .u32 (m : Int)] := rfl
 rw [List.length_map, bl_len, hp, Nat.zero_add, e]
 simp [hrw, irow]
theorem builtH2 (prev m : Nat) : Tryz.prog.built 37 [(1, .int .u32 (prev : Int)), (2, .int .u32 (m : Int))] = some (hrw z32 prev m) := by kernel_rfl
theorem builtH0 : Tryz.prog.built 37 [] = some (hrw z32 0 0) := by kernel_rfl
theorem zHdr (W : World) : (Instr.alloc 37 true (.tuple #[])).run Tryz.prog W = .ok (.pointer (some ⟨W.heap.size, 0, none⟩)) (W.alloc (.cells (hrw z32 0 0) 37)) := by kernel_rfl
theorem irow_map (l : List Int) : l.map (Value.int .u8) = (irow .u8 l).toList := by simp [irow]
def hdP (d : List B) : Array Value := hrw (gf (dfs (dwh d)) 0).dat (gf (dfs (dwh d)) 1).num (gf (dfs (dwh d)) 2).num
def PrH (base : Nat) (d : List B) (e : Ending) (w' : World) : Prop := match dec8 hdr d 0 with
 | none => e = .returned (.tuple #[.agg (hdP d), .nilIface])
 | some x => ∃ g, e = .returned (.tuple #[.agg (hrw z32 0 0), .iface 83 (.pointer (some ⟨g, 0, none⟩))]) ∧ base ≤ g ∧ w'.heap[g]? = some (.cells (frw x) 65 (0, 0))
set_option maxRecDepth 100000 in
set_option maxHeartbeats 8000000 in
theorem a_ParseHeader (d : List B) (b : Value) (w : World) (hB : BysB w b d) (hcap : ∀ a l c, b = .slice a l c → l ≤ c) : Calls Tryz.prog 21 #[b] w fun e w' => PrH w.heap.size d e w' ∧ Below w.heap.size w w' := by
 have R0 := hp1_0 w (.cells (hrw z32 0 0) 37)
 have hw : Below w.heap.size w (w.alloc (.cells (hrw z32 0 0) 37)) := (Below.refl _ _).alloc (Nat.le_refl _) _
 replace hB := hB.keep hw
 go_enter Tryz.func21, Tryz.ntmps21
 go_upto_region 1 with (first | (refine wpList_alloc rfl 37 rfl (hrw z32 0 0) zHdr ?_) | fail)
 try simp only [size_alloc1, Act.put, List.setIfInBounds_toArray, List.set_cons_succ, List.set_cons_zero]
 generalize w.alloc (.cells (hrw z32 0 0) 37) = w1 at *
 go_wp2_with (fail)
 refine (a_headerCodec w1).mono ?_
 rintro e_ w2 ⟨⟨q, rfl, hq, hC⟩, hb_⟩
 have l0_ := lt_of_row R0
 have sz12 := hb_.size
 replace R0 := keep hb_ R0
 replace hB := hB.keep hb_
 replace hw := Below.after hw hb_
 clear hb_
 have cDe := hide (a_DecodeF hdr_flat d b w2 hC hB hcap)
 clear hC
 go_wp2_with (fail)
 refine cDe.out.mono ?_
 rintro e_ w3 ⟨hD, hb_⟩
 have sz2 := hw.size
 replace R0 := keep hb_ R0
 replace hw := Below.after hw hb_
 have sz3 := hb_.size
 clear hb_ cDe hB hcap
 obtain ⟨R, hR⟩ : ∃ R, dec8 hdr d 0 = R := ⟨_, rfl⟩
 unfold Dcr at hD
 rw [hR] at hD
 cases R with
 | some x =>
   obtain ⟨g, rfl, hg1, hg2⟩ := hD
   replace hR := hide hR
   have rZ := hp1_0 w3 (.cells #[.int .u64 0, .slice none 0 0, .slice none 0 0] 80)
   have hne := neq_fault (.pointer (some ⟨g, 0, none⟩))
   have hone : (#[Value.int .u64 0, .slice none 0 0, .slice none 0 0] : Array Value).all (·.oneCell') = true := by simp [Value.oneCell']
   have hb5 : Below w3.heap.size w3 ((w3.alloc (.cells #[.int .u64 0, .slice none 0 0, .slice none 0 0] 80)).setRow w3.heap.size #[.int .u64 0, .slice none 0 0, .slice none 0 0]) := below_setRow ((Below.refl _ _).alloc (Nat.le_refl _) _) (Nat.le_refl _) #[.int .u64 0, .slice none 0 0, .slice none 0 0]
   have R05 := keep hb5 R0
   have hg5 := keep hb5 hg2
   replace hw := Below.after hw hb5
   have RF := hide (setRow_heap _ w.heap.size _ (hrw z32 0 0) _ _ R05)
   have hwF := hide (below_setRow (g := w.heap.size) hw (Nat.le_refl _) (hrw z32 0 0))
   have hgF := hide ((setRow_other _ w.heap.size g (hrw z32 0 0) (by omega)).trans hg5)
   clear hw hb5 hg5 hg2
   go_wp2_with (first | (refine wpList_store_row rfl 80 _ _ rfl w3.heap.size #[.int .u64 0, .slice none 0 0, .slice none 0 0] rfl rfl 80 _ rZ infoV rfl hone ?_) | (refine wpList_build_want rfl 37 _ rfl [] rfl (hrw z32 0 0) builtH0 ?_) | (refine wpList_store_row rfl 37 _ _ rfl w.heap.size (hrw z32 0 0) rfl rfl 37 _ R05 (hrw_info _ z32_len 0 0) rfl (hrw_one _ _ _) ?_) | fail)
   refine bodyPost_ret (results_row_slot Tryz.results21 _ _ w.heap.size _ _ _ _ _ rfl RF.out rfl Tryz.underlying37 rfl (hrw_info _ z32_len 0 0)) rfl ⟨?_, hwF.out⟩
   unfold PrH
   rw [hR.out]
   exact ⟨g, rfl, by omega, hgF.out⟩
 | none =>
   obtain ⟨pv, fv, us, rfl, hO, hF⟩ := hD
   obtain ⟨hd0, pub, prev, m, hfs, hp, h1, h2⟩ := dec_hdr hR
   rw [hfs] at hO hF
   obtain ⟨pb, pc, rfl, hpb1, hpb2, hra⟩ := own_rangeR hO (by simp)
   have hu : us.length = 3 := hF.2.1
   obtain ⟨g0, c0, e0, hc0, hgb0, hgl0, hr0⟩ := own_range (hF.2.2.1 0 (by omega)) (by show 0 < pub.length; omega)
   have hvr : vrk [⟨1, 2, 0, pub⟩, ⟨2, 5, prev, []⟩, ⟨3, 5, m, []⟩] us 3 = [.int .u64 0, .slice (some ⟨g0, 0, none⟩) 32 c0, .slice none 0 0, .int .u64 (prev : Int), gv us 1, .slice none 0 0, .int .u64 (m : Int), gv us 2, .slice none 0 0] := by
     have q0 : gv us 0 = .slice (some ⟨g0, 0, none⟩) 32 c0 := by rw [e0]; show Value.slice _ pub.length _ = _; rw [hp]
     rw [← q0]
     rfl
   have hra' : w3.rangeAt pb 0 [.int .u64 0, .slice (some ⟨g0, 0, none⟩) 32 c0, .slice none 0 0, .int .u64 (prev : Int), gv us 1, .slice none 0 0, .int .u64 (m : Int), gv us 2, .slice none 0 0] := by rw [← hvr]; exact hra
   replace hra := hra'
   replace hr0 : w3.rangeAt g0 0 ((bl pub).map (Value.int .u8)) := hr0
   replace hfs := hide hfs
   replace hR := hide hR
   clear hra' hvr e0 hO hF hd0 hu hc0
   generalize gv us 1 = uu1 at *
   generalize gv us 2 = uu2 at *
   have rZ := hp1_0 w3 (.cells #[.int .u64 0, .slice none 0 0, .slice none 0 0] 80)
   have hnn := neq_nils
   have hone : (#[Value.int .u64 0, .slice none 0 0, .slice (some ⟨pb, 0, none⟩) 3 pc] : Array Value).all (·.oneCell') = true := by simp [Value.oneCell']
   have hb5 : Below w3.heap.size w3 ((w3.alloc (.cells #[.int .u64 0, .slice none 0 0, .slice none 0 0] 80)).setRow w3.heap.size #[.int .u64 0, .slice none 0 0, .slice (some ⟨pb, 0, none⟩) 3 pc]) := below_setRow ((Below.refl _ _).alloc (Nat.le_refl _) _) (Nat.le_refl _) #[.int .u64 0, .slice none 0 0, .slice (some ⟨pb, 0, none⟩) 3 pc]
   have rV := setRow_heap _ w3.heap.size _ #[.int .u64 0, .slice none 0 0, .slice (some ⟨pb, 0, none⟩) 3 pc] _ _ rZ
   have l03 := lt_of_row R0
   replace R0 := keep hb5 R0
   replace hw := Below.after hw hb5
   replace hra := rangeS_keep2 hra hb5 hpb2
   replace hr0 := rangeS_keep2 hr0 hb5 hgl0
   have lV3 := lt_of_row rV
   clear hb5
   have A1 := hide R0
   have A2 := hide hw
   have A3 := hide hra
   have A4 := hide hr0
   have A7 := hide rV
   have A8 := hide lV3
   clear R0 hw hra hr0 rV lV3
   go_upto_region 4 with (first | (refine wpList_store_row rfl 80 _ _ rfl w3.heap.size #[.int .u64 0, .slice none 0 0, .slice (some ⟨pb, 0, none⟩) 3 pc] rfl rfl 80 _ rZ infoV rfl hone ?_) | fail)
   clear rZ
   generalize (w3.alloc (.cells #[.int .u64 0, .slice none 0 0, .slice none 0 0] 80)).setRow w3.heap.size #[.int .u64 0, .slice none 0 0, .slice (some ⟨pb, 0, none⟩) 3 pc] = w6 at *
   have R0 := A1.out
   have hw := A2.out
   have hra := A3.out
   have hr0 := A4.out
   have rV := A7.out
   have lV6 := A8.out
   clear A1 A2 A3 A4 A7 A8
   generalize w3.heap.size = gV at *
   have wq1 : IntKind.wrap .u32 (prev : Int) = (prev : Int) := by show (prev : Int) % 4294967296 = prev; omega
   have wq2 : IntKind.wrap .u32 (m : Int) = (m : Int) := by show (m : Int) % 4294967296 = m; omega
   have HS : (fun W : World => W.heap[gV]? = some (.cells #[.int .u64 0, .slice none 0 0, .slice (some ⟨pb, 0, none⟩) 3 pc] 80 (0, 0)) ∧ W.rangeAt pb 0 [.int .u64 0, .slice (some ⟨g0, 0, none⟩) 32 c0, .slice none 0 0, .int .u64 (prev : Int), uu1, .slice none 0 0, .int .u64 (m : Int), uu2, .slice none 0 0] ∧ W.rangeAt g0 0 ((bl pub).map (Value.int .u8))) w6.drew := ⟨rV, hra, hr0⟩
   have hbd : Below w6.heap.size w6 w6.drew := below_drN (Below.refl _ _) 1
   replace R0 := keep hbd R0
   replace hw := Below.after hw hbd
   have szd := hbd.size
   clear hbd rV hra hr0
   refine wp_region_held (S := fun W : World => W.heap[gV]? = some (.cells #[.int .u64 0, .slice none 0 0, .slice (some ⟨pb, 0, none⟩) 3 pc] 80 (0, 0)) ∧ W.rangeAt pb 0 [.int .u64 0, .slice (some ⟨g0, 0, none⟩) 32 c0, .slice none 0 0, .int .u64 (prev : Int), uu1, .slice none 0 0, .int .u64 (m : Int), uu2, .slice none 0 0] ∧ W.rangeAt g0 0 ((bl pub).map (Value.int .u8))) (by kernel_rfl) ?_
   change wpAnyH _ _ _ _ _ _ _ _ (World.drew _)
   generalize w6.drew = w7 at *
   refine wpAnyH_take (i := 0) (v := ?v8) rfl (by kernel_rfl) (by kernel_rfl) (by kernel_rfl) (fun _ _ _ h => h) (Or.inl ⟨by rfl, ?y8⟩) HS ?r8
   case y8 =>
     intro w_ hS_
     go_simp
     try with_reducible rfl
   simp only [Act.put, List.getElem_toArray, List.getElem_cons_zero, List.setIfInBounds_toArray, List.set_cons_succ, List.set_cons_zero]
   refine wpAnyH_take (i := 1) (v := .slice (some ⟨pb, 0, none⟩) 3 pc) rfl (by kernel_rfl) (by kernel_rfl) (by kernel_rfl) (fun _ _ _ h => h) (Or.inl ⟨by rfl, ?y9⟩) HS ?r9
   case y9 =>
     intro w_ hS_
     have c_ := cell_of_row _ _ 2 _ _ _ hS_.1
     go_simp
     try with_reducible rfl
   simp only [Act.put, List.getElem_toArray, List.getElem_cons_succ, List.getElem_cons_zero, List.setIfInBounds_toArray, List.set_cons_succ, List.set_cons_zero]
   refine wpAnyH_take (i := 2) (v := ?v10) rfl (by kernel_rfl) (by kernel_rfl) (by kernel_rfl) (fun _ _ _ h => h) (Or.inl ⟨by rfl, ?y10⟩) HS ?r10
   case y10 =>
     intro w_ hS_
     go_simp
     try with_reducible rfl
   simp only [Act.put, List.getElem_toArray, List.getElem_cons_succ, List.getElem_cons_zero, List.setIfInBounds_toArray, List.set_cons_succ, List.set_cons_zero]
   refine wpAnyH_take (i := 3) (v := ?v11) rfl (by kernel_rfl) (by kernel_rfl) (by kernel_rfl) (fun _ _ _ h => h) (Or.inl ⟨by rfl, ?y11⟩) HS ?r11
   case y11 =>
     intro w_ hS_
     go_simp
     try with_reducible rfl
   simp only [Act.put, List.getElem_toArray, List.getElem_cons_succ, List.getElem_cons_zero, List.setIfInBounds_toArray, List.set_cons_succ, List.set_cons_zero]
   refine wpAnyH_take (i := 4) (v := .int .u64 (prev : Int)) rfl (by kernel_rfl) (by kernel_rfl) (by kernel_rfl) (fun _ _ _ h => h) (Or.inl ⟨by rfl, ?y12⟩) HS ?r12
   case y12 =>
     intro w_ hS_
     have c_ : w_.cell? ⟨pb, 3, none⟩ = some (.int .u64 (prev : Int)) := hS_.2.1 3 _ rfl
     go_simp
     try with_reducible rfl
   simp only [Act.put, List.getElem_toArray, List.getElem_cons_succ, List.getElem_cons_zero, List.setIfInBounds_toArray, List.set_cons_succ, List.set_cons_zero]
   refine wpAnyH_take (i := 5) (v := .int .u32 (prev : Int)) rfl (by kernel_rfl) (by kernel_rfl) (by kernel_rfl) (fun _ _ _ h => h) (Or.inl ⟨by rfl, ?y13⟩) HS ?r13
   case y13 =>
     intro w_ hS_
     go_simp
     try with_reducible rfl
   simp only [Act.put, List.getElem_toArray, List.getElem_cons_succ, List.getElem_cons_zero, List.setIfInBounds_toArray, List.set_cons_succ, List.set_cons_zero]
   refine wpAnyH_take (i := 6) (v := ?v14) rfl (by kernel_rfl) (by kernel_rfl) (by kernel_rfl) (fun _ _ _ h => h) (Or.inl ⟨by rfl, ?y14⟩) HS ?r14
   case y14 =>
     intro w_ hS_
     go_simp
     try with_reducible rfl
   simp only [Act.put, List.getElem_toArray, List.getElem_cons_succ, List.getElem_cons_zero, List.setIfInBounds_toArray, List.set_cons_succ, List.set_cons_zero]
   refine wpAnyH_take (i := 7) (v := .slice (some ⟨pb, 0, none⟩) 3 pc) rfl (by kernel_rfl) (by kernel_rfl) (by kernel_rfl) (fun _ _ _ h => h) (Or.inl ⟨by rfl, ?y15⟩) HS ?r15
   case y15 =>
     intro w_ hS_
     have c_ := cell_of_row _ _ 2 _ _ _ hS_.1
     go_simp
     try with_reducible rfl
   simp only [Act.put, List.getElem_toArray, List.getElem_cons_succ, List.getElem_cons_zero, List.setIfInBounds_toArray, List.set_cons_succ, List.set_cons_zero]
   refine wpAnyH_take (i := 8) (v := ?v16) rfl (by kernel_rfl) (by kernel_rfl) (by kernel_rfl) (fun _ _ _ h => h) (Or.inl ⟨by rfl, ?y16⟩) HS ?r16
   case y16 =>
     intro w_ hS_
     go_simp
     try with_reducible rfl
   simp only [Act.put, List.getElem_toArray, List.getElem_cons_succ, List.getElem_cons_zero, List.setIfInBounds_toArray, List.set_cons_succ, List.set_cons_zero]
   refine wpAnyH_take (i := 9) (v := ?v17) rfl (by kernel_rfl) (by kernel_rfl) (by kernel_rfl) (fun _ _ _ h => h) (Or.inl ⟨by rfl, ?y17⟩) HS ?r17
   case y17 =>
     intro w_ hS_
     go_simp
     try with_reducible rfl
   simp only [Act.put, List.getElem_toArray, List.getElem_cons_succ, List.getElem_cons_zero, List.setIfInBounds_toArray, List.set_cons_succ, List.set_cons_zero]
   refine wpAnyH_take (i := 10) (v := .int .u64 (m : Int)) rfl (by kernel_rfl) (by kernel_rfl) (by kernel_rfl) (fun _ _ _ h => h) (Or.inl ⟨by rfl, ?y18⟩) HS ?r18
   case y18 =>
     intro w_ hS_
     have c_ : w_.cell? ⟨pb, 6, none⟩ = some (.int .u64 (m : Int)) := hS_.2.1 6 _ rfl
     go_simp
     try with_reducible rfl
   simp only [Act.put, List.getElem_toArray, List.getElem_cons_succ, List.getElem_cons_zero, List.setIfInBounds_toArray, List.set_cons_succ, List.set_cons_zero]
   refine wpAnyH_take (i := 11) (v := .int .u32 (m : Int)) rfl (by kernel_rfl) (by kernel_rfl) (by kernel_rfl) (fun _ _ _ h => h) (Or.inl ⟨by rfl, ?y19⟩) HS ?r19
   case y19 =>
     intro w_ hS_
     go_simp
     try with_reducible rfl
   simp only [Act.put, List.getElem_toArray, List.getElem_cons_succ, List.getElem_cons_zero, List.setIfInBounds_toArray, List.set_cons_succ, List.set_cons_zero]
   refine wpAnyH_take (i := 12) (v := .agg (hrw z32 prev m)) rfl (by kernel_rfl) (by kernel_rfl) (by kernel_rfl) (fun _ _ _ h => h) (Or.inl ⟨by rfl, ?y20⟩) HS ?r20
   case y20 =>
     intro w_ hS_
     simp only [List.getElem_toArray, List.getElem_cons_succ, List.getElem_cons_zero]
     exact run_build_op 37 _ rfl [(1, .int .u32 (prev : Int)), (2, .int .u32 (m : Int))] rfl _ (builtH2 prev m)
   simp only [Act.put, List.getElem_toArray, List.getElem_cons_succ, List.getElem_cons_zero, List.setIfInBounds_toArray, List.set_cons_succ, List.set_cons_zero]
   refine wpAnyH_one (k := 13) (fuel := 1) (by kernel_rfl) rfl (by kernel_rfl) (fun K_ hK => ?_)
   refine wp_val_op (.pointer (some ⟨w7.heap.size, 0, none⟩)) (w' := w7.alloc (.cells (hrw z32 0 0) 37)) (by kernel_rfl) ?_
   have RB := hp1_0 w7 (.cells (hrw z32 0 0) 37)
   have l0_ := lt_of_row R0
   have lVV := lt_of_row HS.1
   have hb_ : Below w7.heap.size w7 (w7.alloc (.cells (hrw z32 0 0) 37)) := (Below.refl _ _).alloc (Nat.le_refl _) _
   have HS' : (fun W : World => W.heap[gV]? = some (.cells #[.int .u64 0, .slice none 0 0, .slice (some ⟨pb, 0, none⟩) 3 pc] 80 (0, 0)) ∧ W.rangeAt pb 0 [.int .u64 0, .slice (some ⟨g0, 0, none⟩) 32 c0, .slice none 0 0, .int .u64 (prev : Int), uu1, .slice none 0 0, .int .u64 (m : Int), uu2, .slice none 0 0] ∧ W.rangeAt g0 0 ((bl pub).map (Value.int .u8))) _ := ⟨keep hb_ HS.1, rangeS_keep2 HS.2.1 hb_ (by omega), rangeS_keep2 HS.2.2 hb_ (by omega)⟩
   replace HS := HS'
   clear HS'
   replace R0 := keep hb_ R0
   replace hw := Below.after hw hb_
   clear hb_
   refine hK _ _ HS ?_
   simp only [Act.put, List.getElem_toArray, List.getElem_cons_succ, List.getElem_cons_zero, List.setIfInBounds_toArray, List.set_cons_succ, List.set_cons_zero]
   clear hK
   generalize w7.alloc (.cells (hrw z32 0 0) 37) = w8 at *
   generalize w7.heap.size = gB at *
   refine wpAnyH_one (k := 14) (fuel := 0) (by kernel_rfl) rfl (by kernel_rfl) (fun K_ hK => ?_)
   refine wp_store_row 37 _ _ rfl gB (hrw z32 prev m) rfl rfl 37 _ RB (hrw_info z32 z32_len prev m) (by rw [hrw_size _ z32_len, hrw_size _ z32_len]) (hrw_one _ _ _) ?_
   have HS' : (fun W : World => W.heap[gV]? = some (.cells #[.int .u64 0, .slice none 0 0, .slice (some ⟨pb, 0, none⟩) 3 pc] 80 (0, 0)) ∧ W.rangeAt pb 0 [.int .u64 0, .slice (some ⟨g0, 0, none⟩) 32 c0, .slice none 0 0, .int .u64 (prev : Int), uu1, .slice none 0 0, .int .u64 (m : Int), uu2, .slice none 0 0] ∧ W.rangeAt g0 0 ((bl pub).map (Value.int .u8))) (w8.setRow gB (hrw z32 prev m)) := ⟨(setRow_other w8 gB gV (hrw z32 prev m) (by omega)).trans HS.1, mv_range HS.2.1 (setRow_other w8 gB pb (hrw z32 prev m) (by omega)), mv_range HS.2.2 (setRow_other w8 gB g0 (hrw z32 prev m) (by omega))⟩
   replace R0 := (setRow_other w8 gB (w.heap.size) (hrw z32 prev m) (by omega)).trans R0
   replace RB := setRow_heap w8 gB _ (hrw z32 prev m) _ _ RB
   replace hw := below_setRow hw (show w.heap.size ≤ gB by omega) (hrw z32 prev m)
   refine hK _ _ HS' ?_
   simp only [Act.put]
   clear hK HS
   generalize w8.setRow gB (hrw z32 prev m) = w9 at *
   refine wpAnyH_done (by kernel_rfl) ?_ _
   go_upto_region 5 with (fail)
   have hbd : Below w9.heap.size w9 w9.drew := below_drN (Below.refl _ _) 1
   have HS : (fun W : World => W.heap[gV]? = some (.cells #[.int .u64 0, .slice none 0 0, .slice (some ⟨pb, 0, none⟩) 3 pc] 80 (0, 0)) ∧ W.rangeAt pb 0 [.int .u64 0, .slice (some ⟨g0, 0, none⟩) 32 c0, .slice none 0 0, .int .u64 (prev : Int), uu1, .slice none 0 0, .int .u64 (m : Int), uu2, .slice none 0 0] ∧ W.rangeAt g0 0 ((bl pub).map (Value.int .u8))) w9.drew := HS'
   replace R0 := keep hbd R0
   replace RB := keep hbd RB
   replace hw := Below.after hw hbd
   have sk := slice_ko gB 0
   clear hbd HS' wq1 wq2
   refine wp_region_held (S := fun W : World => W.heap[gV]? = some (.cells #[.int .u64 0, .slice none 0 0, .slice (some ⟨pb, 0, none⟩) 3 pc] 80 (0, 0)) ∧ W.rangeAt pb 0 [.int .u64 0, .slice (some ⟨g0, 0, none⟩) 32 c0, .slice none 0 0, .int .u64 (prev : Int), uu1, .slice none 0 0, .int .u64 (m : Int), uu2, .slice none 0 0] ∧ W.rangeAt g0 0 ((bl pub).map (Value.int .u8))) (by kernel_rfl) ?_
   change wpAnyH _ _ _ _ _ _ _ _ (World.drew _)
   generalize w9.drew = w10 at *
   refine wpAnyH_take (i := 0) (v := ?v21) rfl (by kernel_rfl) (by kernel_rfl) (by kernel_rfl) (fun _ _ _ h => h) (Or.inl ⟨by rfl, ?y21⟩) HS ?r21
   case y21 =>
     intro w_ hS_
     go_simp
     try with_reducible rfl
   simp only [Act.put, List.getElem_toArray, List.getElem_cons_zero, List.setIfInBounds_toArray]
   refine wpAnyH_take (i := 1) (v := .slice (some ⟨gB, 0, none⟩) 32 32) rfl (by kernel_rfl) (by kernel_rfl) (by kernel_rfl) (fun _ _ _ h => h) (Or.inl ⟨by rfl, ?y22⟩) HS ?r22
   case y22 =>
     intro w_ hS_
     go_simp
     try with_reducible rfl
   simp only [Act.put, List.getElem_toArray, List.getElem_cons_succ, List.getElem_cons_zero, List.setIfInBounds_toArray, List.set_cons_succ, List.set_cons_zero]
   refine wpAnyH_take (i := 2) (v := ?v23) rfl (by kernel_rfl) (by kernel_rfl) (by kernel_rfl) (fun _ _ _ h => h) (Or.inl ⟨by rfl, ?y23⟩) HS ?r23
   case y23 =>
     intro w_ hS_
     go_simp
     try with_reducible rfl
   simp only [Act.put, List.getElem_toArray, List.getElem_cons_succ, List.getElem_cons_zero, List.setIfInBounds_toArray, List.set_cons_succ, List.set_cons_zero]
   refine wpAnyH_take (i := 3) (v := .slice (some ⟨pb, 0, none⟩) 3 pc) rfl (by kernel_rfl) (by kernel_rfl) (by kernel_rfl) (fun _ _ _ h => h) (Or.inl ⟨by rfl, ?y24⟩) HS ?r24
   case y24 =>
     intro w_ hS_
     have c_ := cell_of_row _ _ 2 _ _ _ hS_.1
     go_simp
     try with_reducible rfl
   simp only [Act.put, List.getElem_toArray, List.getElem_cons_succ, List.getElem_cons_zero, List.setIfInBounds_toArray, List.set_cons_succ, List.set_cons_zero]
   refine wpAnyH_take (i := 4) (v := ?v25) rfl (by kernel_rfl) (by kernel_rfl) (by kernel_rfl) (fun _ _ _ h => h) (Or.inl ⟨by rfl, ?y25⟩) HS ?r25
   case y25 =>
     intro w_ hS_
     go_simp
     try with_reducible rfl
   simp only [Act.put, List.getElem_toArray, List.getElem_cons_succ, List.getElem_cons_zero, List.setIfInBounds_toArray, List.set_cons_succ, List.set_cons_zero]
   refine wpAnyH_take (i := 5) (v := ?v26) rfl (by kernel_rfl) (by kernel_rfl) (by kernel_rfl) (fun _ _ _ h => h) (Or.inl ⟨by rfl, ?y26⟩) HS ?r26
   case y26 =>
     intro w_ hS_
     go_simp
     try with_reducible rfl
   simp only [Act.put, List.getElem_toArray, List.getElem_cons_succ, List.getElem_cons_zero, List.setIfInBounds_toArray, List.set_cons_succ, List.set_cons_zero]
   refine wpAnyH_take (i := 6) (v := .slice (some ⟨g0, 0, none⟩) 32 c0) rfl (by kernel_rfl) (by kernel_rfl) (by kernel_rfl) (fun _ _ _ h => h) (Or.inl ⟨by rfl, ?y27⟩) HS ?r27
   case y27 =>
     intro w_ hS_
     have c_ : w_.cell? ⟨pb, 1, none⟩ = some (.slice (some ⟨g0, 0, none⟩) 32 c0) := hS_.2.1 1 _ rfl
     go_simp
     try with_reducible rfl
   simp only [Act.put, List.getElem_toArray, List.getElem_cons_succ, List.getElem_cons_zero, List.setIfInBounds_toArray, List.set_cons_succ, List.set_cons_zero]
   refine wpAnyH_one (k := 7) (fuel := 0) (by kernel_rfl) rfl (by kernel_rfl) (fun K_ hK => ?_)
   refine wp_copyR _ _ 28 28 rfl 5 Tryz.underlying28 (by kernel_rfl) gB 0 32 32 ⟨g0, 0, none⟩ 32 c0 rfl rfl (hrw z32 prev m) 37 RB ((bl pub).map (Value.int .u8)) (by rw [List.length_map, bl_len, hp]; rfl) (fun j v hv => by rw [addr_add]; exact HS.2.2 j v hv) (by rw [List.length_map, bl_len, hp, hrw_size _ z32_len]; decide) (fun v hv => by obtain ⟨x, _, rfl⟩ := List.mem_map.1 hv; rfl) ?_
   rw [hrw_copy pub hp prev m]
   have HS' : (fun W : World => W.heap[gV]? = some (.cells #[.int .u64 0, .slice none 0 0, .slice (some ⟨pb, 0, none⟩) 3 pc] 80 (0, 0)) ∧ W.rangeAt pb 0 [.int .u64 0, .slice (some ⟨g0, 0, none⟩) 32 c0, .slice none 0 0, .int .u64 (prev : Int), uu1, .slice none 0 0, .int .u64 (m : Int), uu2, .slice none 0 0] ∧ W.rangeAt g0 0 ((bl pub).map (Value.int .u8))) (w10.setRow gB (hrw pub prev m)) := ⟨(setRow_other w10 gB gV (hrw pub prev m) (by omega)).trans HS.1, mv_range HS.2.1 (setRow_other w10 gB pb (hrw pub prev m) (by omega)), mv_range HS.2.2 (setRow_other w10 gB g0 (hrw pub prev m) (by omega))⟩
   replace R0 := (setRow_other w10 gB (w.heap.size) (hrw pub prev m) (by omega)).trans R0
   replace RB := setRow_heap w10 gB _ (hrw pub prev m) _ _ RB
   replace hw := below_setRow hw (show w.heap.size ≤ gB by omega) (hrw pub prev m)
   refine hK _ _ HS' ?_
   simp only [Act.put, List.getElem_toArray, List.getElem_cons_succ, List.getElem_cons_zero, List.setIfInBounds_toArray, List.set_cons_succ, List.set_cons_zero]
   clear hK HS HS'
   generalize w10.setRow gB (hrw pub prev m) = w11 at *
   refine wpAnyH_done (by kernel_rfl) ?_ _
   have hpb : Hid (hdP d = (hrw pub prev m)) := hide (by unfold hdP; rw [hfs.out]; rfl)
   have RF := hide (setRow_heap w11 w.heap.size _ (hrw pub prev m) _ _ R0)
   have hwF := hide (below_setRow (g := w.heap.size) hw (Nat.le_refl _) (hrw pub prev m))
   clear hw
   go_wp2_with (first | (refine wpList_load_want rfl 37 _ rfl gB rfl 37 (hrw pub prev m) (0, 0) _ RB Tryz.underlying37 rfl (hrw_info _ hp prev m) ?_) | (refine wpList_store_row rfl 37 _ _ rfl w.heap.size (hrw pub prev m) rfl rfl 37 _ R0 (hrw_info _ hp prev m) (by rw [hrw_size _ z32_len, hrw_size _ hp]) (hrw_one _ _ _) ?_) | fail)
   refine bodyPost_ret (results_row_slot Tryz.results21 _ _ w.heap.size _ _ _ _ _ rfl RF.out rfl Tryz.underlying37 rfl (hrw_info _ hp prev m)) rfl ⟨?_, hwF.out⟩
   unfold PrH
   rw [hR.out]
   exact congrArg (fun x => Ending.returned (.tuple #[.agg x, .nilIface])) hpb.out.symm
end Go.Proofs.YtleeadbceljfbaaGreatDoor
