import Derived.Test.YtlbndkfllegacaaGreatDoorCJrb
import Derived.OwnWalk
import Derived.Deep.Cut
import Derived.Deep.RegionHeld3
import Derived.Test.YtlbndkfllegacaaGreatDoorCJrx
namespace Go.Proofs.YtlbndkfllegacaaGreatDoor
set_option maxRecDepth 100000
open Go Go.RowKit Go.Sort
attribute [local go_sem] setCell_drewN alloc_drewN
def vrk (fs : List Fd) (us : List Value) : Nat → List Value
 | 0 => []
 | k + 1 => vrk fs us k ++ [.int .u64 ((gf fs k).num : Int), gv us k, .slice none 0 0]
theorem infoVI : ∃ i, Tryz.prog.info? 76 = some i ∧ i.zero = some (.agg #[.int .u64 0, .slice none 0 0, .slice none 0 0]) ∧ i.size = 3 ∧ i.bytes = 56 := ⟨_, rfl, rfl, rfl, rfl⟩
theorem run_bv1 (x y z : Value) (W : World) : (Instr.buildSlice 74 1 #[(0, .agg #[x, y, z])]).run Tryz.prog W = .ok (.slice (some ⟨W.heap.size, 0, none⟩) 1 1) (W.alloc (.cells #[x, y, z] 76)) := by kernel_rfl
theorem op_bv1 {o : Oper} {a : Act} {w : World} (p : Operand) (ho : o.op = .buildSlice 74 1 #[(0, p)]) (x y z : Value) (hp : a.eval p = .agg #[x, y, z]) : (execOp a.eval o).run Tryz.prog w = .ok (.value (.slice (some ⟨w.heap.size, 0, none⟩) 1 1)) (w.alloc (.cells #[x, y, z] 76)) := by
 have hr := run_bv1 x y z w
 unfold execOp
 simp only [ho, Sem.run_bind, Sem.run_pure, List.map_toArray, List.map_cons, List.map_nil, hp, hr, Result.andThen_ok]
theorem ech_all : ∀ (fs : List Fd) (last : Int), 0 ≤ last → ech fs last = 0 → ∀ f ∈ fs, 0 ≤ f.no ∧ f.no ≤ 536870911 ∧ known f.ty ∧ fits f
 | [], _, _, _, f, hf => by simp at hf
 | g :: fs, last, h0, h, f, hf => by
   rw [ech] at h
   split at h
   · rename_i hne
     exact absurd h hne
   · rename_i hz
     have hz' : fck g last = 0 := by simpa using hz
     have hg : 0 ≤ g.no ∧ g.no ≤ 536870911 ∧ known g.ty ∧ fits g := by
       unfold fck at hz'
       split at hz'
       · rename_i h1; exact absurd hz' h1
       · rename_i h1
         have h1' : hck g last = 0 := by simpa using h1
         split at hz'
         · rename_i h2
           unfold hck at h1'
           split at h1'
           · omega
           · rename_i h3
             split at h1'
             · rename_i h4
               exact ⟨by omega, by omega, h4, h2⟩
             · omega
         · omega
     rcases List.mem_cons.1 hf with rfl | hf
     · exact hg
     · exact ech_all fs g.no hg.1 h f hf
theorem whl_pl {d : List B} : ∀ (k p : Nat) (last : Int) (c : Nat), p ≤ d.length → ∀ q e, (whl d k p last c).2 = some (q, e) → q ≤ d.length
 | 0, p, last, c, hp, q, e, h => by simp [whl] at h
 | k + 1, p, last, c, hp, q, e, h => by
   by_cases hlt : p < d.length
   · rw [whl, if_pos hlt] at h
     cases hr : rh (d.drop p) last c with
     | er e' =>
       rw [hr] at h
       simp at h
       omega
     | ok no ty n =>
       rw [hr] at h
       simp only at h
       have h1 := rh_ok hr
       rw [List.length_drop] at h1
       cases hv : rv (d.drop (p + n)) ty with
       | er e' =>
         rw [hv] at h
         simp at h
         omega
       | ok num dat m =>
         rw [hv] at h
         have h2 := rv_ok hv
         rw [List.length_drop] at h2
         exact whl_pl k (p + n + m) no (c + 1) (by omega) q e h
   · rw [whl, if_neg hlt] at h
     simp at h
theorem dpl_bd (d : List B) : 0 ≤ dpl (dwh d) ∧ dpl (dwh d) ≤ 4194304 := by
 unfold dpl dwh
 by_cases h : 4194304 < d.length
 · rw [if_pos h]
   exact ⟨by decide, by decide⟩
 · rw [if_neg h]
   have := whl_pl (d := d) d.length 0 0 0 (by omega)
   generalize (whl d d.length 0 0 0).2 = x at *
   cases x with
   | none => exact ⟨by decide, by decide⟩
   | some y =>
     obtain ⟨q, e⟩ := y
     have := this q e rfl
     simp only
     omega
theorem gf_mem {fs : List Fd} {i : Nat} (h : i < fs.length) : gf fs i ∈ fs := by
 rw [gf, List.getD_eq_getElem?_getD, List.getElem?_eq_getElem h]
 exact List.getElem_mem h
theorem ebs_take (fs : List Fd) (k : Nat) (h : k < fs.length) : (ebs (fs.take (k + 1))).length = (ebs (fs.take k)).length + (fby (gf fs k)).length := by
 rw [List.take_add_one, ebs_app, List.length_append, List.getElem?_eq_getElem h]
 simp [ebs_one, gf, List.getD_eq_getElem?_getD, List.getElem?_eq_getElem h]
theorem Fts.at {W : World} {b : Nat} {v : Value} {us : List Value} {fs : List Fd} (h : Fts W b v us fs) {i : Nat} (hi : i < fs.length) : ∃ g cap, v = .slice (some ⟨g, 0, none⟩) fs.length cap ∧ b ≤ g ∧ g < W.heap.size ∧ W.rangeAt g (i * 4) (frow (gf fs i) (gv us i)) := by
 obtain ⟨h1, h2, h3, _⟩ := h
 have h1' := h1
 obtain ⟨_, ⟨rfl, h0⟩ | ⟨g, cap, cur, rfl, hb, hg, hn, hm, hs, ht⟩⟩ := h1'
 · omega
 · refine ⟨g, cap, rfl, hb, lt_of_row hg, fun j x hx => ?_⟩
   have hj : j < 4 := by have := (List.getElem?_eq_some_iff.1 hx).1; exact this
   have := h1.cells (g := g) rfl (i * 4 + j) x (by rw [frs_at fs us i j h2 hi hj]; exact hx)
   rw [addr_add, Nat.zero_add] at this
   exact this
theorem own_move_row {W V : World} {b : Nat} {e : TypeId} {sz : Nat} {v : Value} {n : Nat} {xs : List Value} (h : W.ownsRow b e sz v n xs) (hm : ∀ g o, b ≤ g → W.heap[g]? = some o → V.heap[g]? = some o) : V.ownsRow b e sz v n xs := by
 obtain ⟨q1, q2 | ⟨g, cap, cur, q2, hb, q3, q4⟩⟩ := h
 · exact ⟨q1, .inl q2⟩
 · exact ⟨q1, .inr ⟨g, cap, cur, q2, hb, hm _ _ hb q3, q4⟩⟩
theorem own_down_row {W : World} {b c : Nat} {e : TypeId} {sz : Nat} {v : Value} {n : Nat} {xs : List Value} (h : W.ownsRow b e sz v n xs) (hc : c ≤ b) : W.ownsRow c e sz v n xs := by
 obtain ⟨q1, q2 | ⟨g, cap, cur, q2, hb, q3⟩⟩ := h
 · exact ⟨q1, .inl q2⟩
 · exact ⟨q1, .inr ⟨g, cap, cur, q2, by omega, q3⟩⟩
theorem own_cell_row {W : World} {b : Nat} {e : TypeId} {sz : Nat} {v : Value} {n : Nat} {xs : List Value} (h : W.ownsRow b e sz v n xs) : v.oneCell' = true := by
 obtain ⟨_, ⟨rfl, _⟩ | ⟨g, cap, cur, rfl, _⟩⟩ := h <;> rfl
theorem wp_call_upW {P : Program} {o : Oper} {a : Act} {w : World} {K : Act → World → Prop} {Q : Exit → Act → World → Prop} {f : FuncId} {args : Array Value} (base : Nat) (F : Option Flt3) (R : Value → World → Prop) (B : World → Prop) (hx : (execOp a.eval o).run P w = .ok (.enter f args) w)
   (c : Calls P f args w fun e w' => Gup base F e w' (fun v => R v w') ∧ B w') (h : F = none → ∀ v w', R v w' → B w' → K (a.put o.dst v) w')
   (hp : ∀ x, F = some x → ∀ g w', base ≤ g → w'.heap[g]? = some (.cells (frw x) 35 (0, 0)) → B w' → Q (.panic [{ v := .iface 85 (.pointer (some ⟨g, 0, none⟩)), recovered := false }]) a w') : o.wp P a w K Q := by
 unfold Oper.wp
 rw [hx, Oper.upon_enter]
 refine c.mono fun e w' ⟨hG, hB⟩ => ?_
 cases F with
 | none =>
   obtain ⟨v, rfl, hv⟩ := hG
   exact h rfl v w' hv hB
 | some x =>
   obtain ⟨g, rfl, h1, h2⟩ := hG
   exact hp x rfl g w' h1 h2 hB
set_option maxRecDepth 100000 in
set_option maxHeartbeats 16000000 in
theorem a_decodeF {W : World} {S : Nat → Prop} {v : Value} {ts : List Slt} (h : RdL W S v ts) (hfl : ∀ i, i < ts.length → Fla (gs ts i)) (d : List B) (bv : Value) (from_ : Int) (hfr : 0 ≤ from_ ∧ from_ ≤ 1099511627776) (w : World) (hw : Below W.heap.size W w) (hB : BysB w bv d) (hcap : ∀ a l c, bv = .slice a l c → l ≤ c) :
   Calls Tryz.prog 59 #[v, bv, .int .i64 from_] w fun e w' => Gup w.heap.size (dec8 ts d from_) e w' (fun u => ∃ pv fv us, u = .agg #[.int .u64 0, .slice none 0 0, pv] ∧ w'.ownsRow w.heap.size 76 3 pv (dfs (dwh d)).length (vrk (dfs (dwh d)) us (dfs (dwh d)).length) ∧ Fts w' w.heap.size fv us (dfs (dwh d))) ∧ Below w.heap.size w w' := by
 cases h with
 | mk ao cap ts rows us_ hl hc hnn h hs =>
   clear hs
   have rZ := hp1_0 w (.cells #[.int .u64 0, .slice none 0 0, .slice none 0 0] 76)
   have hb0 : Below w.heap.size w (w.alloc (.cells #[.int .u64 0, .slice none 0 0, .slice none 0 0] 76)) := (Below.refl _ _).alloc (Nat.le_refl _) _
   have cDe := hide (a_decode d (w.alloc (.cells #[.int .u64 0, .slice none 0 0, .slice none 0 0] 76)) bv (hB.keep hb0) hcap)
   obtain ⟨R, hR⟩ : ∃ R, dec8 ts d from_ = R := ⟨_, rfl⟩
   rw [hR]
   replace hb0 := hide hb0
   replace rZ := hide rZ
   clear hB hcap
   go_enter Tryz.func59, Tryz.ntmps59
   go_upto_region 1 with (fail)
   generalize w.alloc (.cells #[.int .u64 0, .slice none 0 0, .slice none 0 0] 76) = w0 at *
   go_wp2_with (fail)
   refine cDe.out.mono ?_
   rintro e_ y ⟨fv, us, rfl, hFt, hb1⟩
   have rZ1 := hide (keep hb1 rZ.out)
   have lz := lt_of_row rZ.out
   have lzy := hb1.size
   have hw0 := hide (Below.after hb0.out hb1)
   have hwy := hide (Below.after hw hw0.out)
   clear cDe rZ hb1 hb0
   by_cases hde : der (dwh d) = 0
   · have hfok := dfs_oks d
     have hf64 := dfs_len d hde
     have hee := eer_ok.1 (dec_enc hde).1
     have hkn : ∀ i, i < (dfs (dwh d)).length → _ := fun i hi => ech_all _ 0 (by decide) hee.2.1 _ (gf_mem hi)
     have hebs := hee.2.2
     have eR : R = dcF (ts.drop 0) ((dfs (dwh d)).drop 0) (from_ + ((ebs ((dfs (dwh d)).take 0)).length : Int)) := by rw [← hR, dec8, if_neg (by omega)]; simp [ebs]
     rw [hde]
     clear hR hee hde
     generalize hfs : dfs (dwh d) = fs at *
     replace hfs := hide hfs
     generalize dpl (dwh d) = pl at *
     obtain ⟨fo, fcap, rfl⟩ : ∃ fo fcap, fv = .slice fo fs.length fcap := by
       obtain ⟨_, ⟨rfl, h0⟩ | ⟨g, cap, cur, rfl, _⟩⟩ := hFt.1
       · exact ⟨none, 0, by rw [h0]⟩
       · exact ⟨_, _, rfl⟩
     replace hFt := hide hFt
     replace eR := hide eR
     go_wp2_with (fail)
     go_loopw [30, 10, 11, 12, 13] (fun i pv at_ _ _ wr => ∃ k : Nat, k ≤ ts.length ∧ k ≤ fs.length ∧ i = .int .i64 k ∧ at_ = .int .i64 (from_ + ((ebs (fs.take k)).length : Int)) ∧ R = dcF (ts.drop k) (fs.drop k) (from_ + ((ebs (fs.take k)).length : Int)) ∧ wr.ownsRow y.heap.size 76 3 pv k (vrk fs us k) ∧ Below y.heap.size y wr) (fun i _ _ _ _ _ => ts.length - (intOf i).toNat)
     case atStart => exact ⟨0, by omega, by omega, rfl, by simp [ebs], eR.out, ⟨rfl, .inl ⟨rfl, rfl⟩⟩, Below.refl _ _⟩
     case round =>
       clear eR
       obtain ⟨k, hk, hkl, rfl, rfl, eR, hOp, hby⟩ := hrel
       by_cases hlt : k < ts.length
       · generalize u10 = pv at *
         have hdk : decide ((k : Int) < (ts.length : Int)) = true := by simp; omega
         obtain ⟨b, rfl, hbl, _, hra, hSl⟩ := h k hlt
         obtain ⟨wt, k1, k2, k3, a1, a2, a3, hrow, hwt, hent, hcall⟩ := a_slotRead hSl (hfl k hlt)
         rw [hrow] at hra
         have szwr := hby.size
         have hWw : Below W.heap.size W wr := hwy.out.trans (hby.mono (by have := hwy.out.size; omega))
         have hrw := rangeS_keep2 hra hWw hbl
         have hpo : ∀ z, pv.ownBlock = some z → y.heap.size ≤ z ∧ z < wr.heap.size := own_high_row hOp
         have hba : Below wr.heap.size wr (wr.alloc (.cells #[.int .i64 0, .int .i64 0, .nilFunc, .nilFunc, .nilFunc] 162)) := (Below.refl _ _).alloc (Nat.le_refl _) _
         have rS := hp1_0 wr (.cells #[.int .i64 0, .int .i64 0, .nilFunc, .nilFunc, .nilFunc] 162)
         have hone : (rdv (gs ts k).no wt k1 k2 k3 a1 a2 a3).all (·.oneCell') = true := by simp [rdv, Value.oneCell']
         have hbb := below_setRow (g := wr.heap.size) hba (Nat.le_refl _) (rdv (gs ts k).no wt k1 k2 k3 a1 a2 a3)
         have rS2 := setRow_heap _ wr.heap.size _ (rdv (gs ts k).no wt k1 k2 k3 a1 a2 a3) _ _ rS
         replace hOp := own_keep_row hOp hbb
         have hfy := hby
         replace hby := Below.after hby hbb
         clear hba hbb hra hrow
         replace hwt := hide hwt
         by_cases hkf : k = fs.length
         · rw [dcF_short hlt hkf.symm] at eR
           subst hkf
           rw [List.take_length] at eR
           replace eR := hide eR
           unfold rdv at *
           generalize (gs ts fs.length).no = no at *
           replace hby := hide hby
           clear hcall hSl hOp rS2 hfy hpo hWw
           rw [List.take_length]
           generalize from_ + ((ebs fs).length : Int) = at_ at *
           go_upto_region 9 with (first | (refine wpList_load_mid rfl 162 _ rfl b (fs.length * 5) rfl _ _ hrw Tryz.underlying162 rfl infoSt' ?_) | (refine wpList_store_row rfl 162 _ _ rfl wr.heap.size #[.int .i64 no, .int .i64 wt, .func (.func k1) #[] a1, .func (.func k2) #[] a2, .func (.func k3) #[] a3] rfl rfl 162 _ rS infoSt' rfl hone ?_) | fail)
           try unfold WpStay
           generalize (wr.alloc (.cells #[.int .i64 0, .int .i64 0, .nilFunc, .nilFunc, .nilFunc] 162)).setRow wr.heap.size #[.int .i64 no, .int .i64 wt, .func (.func k1) #[] a1, .func (.func k2) #[] a2, .func (.func k3) #[] a3] = x0 at *
           go_wp2_with (fail)
           refine (a_giveUp 0 at_ 81 _).mono ?_
           rintro e_ x2 ⟨⟨g, rfl, hgl, hgr⟩, hb2⟩
           have szx := hby.out.size
           have szy := hw0.out.size
           have hz := Below.after hby.out hb2
           go_wp2
           rw [eR.out]
           exact ⟨rfl, ⟨g, rfl, by omega, hgr⟩, hw0.out.trans (hz.mono (by omega))⟩
         · have hkf2 : k < fs.length := by omega
           have hdf : ((k : Int) == (fs.length : Int)) = false := by simp; omega
           have hdf2 : ¬ (k : Int) = (fs.length : Int) := by omega
           rw [dcF_step hlt hkf2] at eR
           obtain ⟨fb, fcap2, efv, hfb1, hfb2, hfrow⟩ := (hFt.out).at hkf2
           cases efv
           replace hfrow := rangeS_keep2 hfrow hby hfb2
           obtain ⟨hk0, hk1, hk2, _⟩ := hkn k hkf2
           have hfo := hfok k hkf2
           obtain ⟨fda, fdc, hus⟩ := slen_own (hFt.out.2.2.1 k (by rw [hFt.out.2.1]; exact hkf2))
           have hat0 : 0 ≤ from_ + ((ebs (fs.take k)).length : Int) ∧ from_ + ((ebs (fs.take k)).length : Int) ≤ 4611686018427387904 := by
             have e := ebs_split fs k
             have e2 : (ebs fs).length = (ebs (fs.take k)).length + (ebs (fs.drop k)).length := by rw [e, List.length_append]
             omega
           have hat1 : Hid (from_ + ((ebs (fs.take k)).length : Int) + ((fby (gf fs k)).length : Int) = from_ + ((ebs (fs.take (k + 1))).length : Int)) := hide (by rw [ebs_take fs k hkf2]; omega)
           have hvk : Hid (vrk fs us (k + 1) = vrk fs us k ++ [.int .u64 ((gf fs k).num : Int), gv us k, .slice none 0 0]) := hide rfl
           have cE := hide (fun V => a_endOf (gf fs k) fda fdc (from_ + ((ebs (fs.take k)).length : Int)) hat0 hfo hk0 hk1 hk2 V)
           have cD := hide (fun V (hV : Below y.heap.size y V) => a_slotDecode (gs ts k).no wt k1 k2 k3 a1 a2 a3 (gf fs k).no (gf fs k).ty (gf fs k).num fda (gf fs k).dat.length fdc (from_ + ((ebs (fs.take k)).length : Int)) (rdE (from_ + ((ebs (fs.take k)).length : Int)) (ftF (gs ts k) (gf fs k))) V hent (fun V' hV' => hcall (gf fs k) fda (gf fs k).dat.length fdc _ V' rfl (by have := hfo.2.1; omega) (hwy.out.trans ((Below.after hV hV').mono (by have := hwy.out.size; omega)))))
           obtain ⟨F, hF⟩ : ∃ F, dsl (gs ts k) (gf fs k) (from_ + ((ebs (fs.take k)).length : Int)) = F := ⟨_, rfl⟩
           rw [hF] at eR
           rw [show (if (gf fs k).no ≠ (gs ts k).no then some ⟨0, from_ + ((ebs (fs.take k)).length : Int), 81⟩ else if (gf fs k).ty ≠ wt then some ⟨0, from_ + ((ebs (fs.take k)).length : Int), 82⟩ else rdE (from_ + ((ebs (fs.take k)).length : Int)) (ftF (gs ts k) (gf fs k))) = F by rw [← hF, dsl, ← hwt.out]] at cD
           replace eR := hide eR
           have hfl3 : (gf fs k).dat.length < 9223372036854775808 := by have := hfo.2.1; omega
           unfold rdv vrw frow at *
           rw [hus] at hfrow hvk
           rw [hat1.out] at eR
           clear hcall hSl hF hus hfo hk0 hk1 hk2 hat0 hwt
           generalize from_ + ((ebs (fs.take k)).length : Int) = at_ at *
           generalize ((fby (gf fs k)).length : Int) = FL at *
           generalize (gf fs k).no = fno at *
           generalize (gf fs k).ty = fty at *
           generalize (gf fs k).num = fnum at *
           generalize (gf fs k).dat.length = fdl at *
           generalize (gs ts k).no = no at *
           replace hby := hide hby
           replace hOp := hide hOp
           replace rS2 := hide rS2
           replace hfrow := hide hfrow
           go_upto_region 9 with (first | (refine wpList_load_mid rfl 162 _ rfl b (k * 5) rfl _ _ hrw Tryz.underlying162 rfl infoSt' ?_) | (refine wpList_store_row rfl 162 _ _ rfl wr.heap.size #[.int .i64 no, .int .i64 wt, .func (.func k1) #[] a1, .func (.func k2) #[] a2, .func (.func k3) #[] a3] rfl rfl 162 _ rS infoSt' rfl hone ?_) | fail)
           try unfold WpStay
           generalize (wr.alloc (.cells #[.int .i64 0, .int .i64 0, .nilFunc, .nilFunc, .nilFunc] 162)).setRow wr.heap.size #[.int .i64 no, .int .i64 wt, .func (.func k1) #[] a1, .func (.func k2) #[] a2, .func (.func k3) #[] a3] = x0 at *
           go_upto_region 11 with (fail)
           have hbd : Below x0.heap.size x0 x0.drew := below_drN (Below.refl _ _) 1
           have HS : (fun W : World => W.heap[wr.heap.size]? = some (.cells #[.int .i64 no, .int .i64 wt, .func (.func k1) #[] a1, .func (.func k2) #[] a2, .func (.func k3) #[] a3] 162 (0, 0)) ∧ W.rangeAt fb (k * 4) [.int .i64 fno, .int .i64 fty, .int .u64 (fnum : Int), .slice fda fdl fdc]) x0.drew := ⟨rS2.out, hfrow.out⟩
           replace hOp := own_keep_row hOp.out hbd
           replace hby := Below.after hby.out hbd
           have hi9 : 0 ≤ (k : Int) ∧ (k : Int) < (fs.length : Int) := by omega
           clear hbd rS2 hfrow rS hfy hWw hrw hent hone hdk hdf hdf2 hkn hfok h
           generalize wr.heap.size = gS at *
           refine wp_region_held (S := fun W : World => W.heap[gS]? = some (.cells #[.int .i64 no, .int .i64 wt, .func (.func k1) #[] a1, .func (.func k2) #[] a2, .func (.func k3) #[] a3] 162 (0, 0)) ∧ W.rangeAt fb (k * 4) [.int .i64 fno, .int .i64 fty, .int .u64 (fnum : Int), .slice fda fdl fdc]) (by kernel_rfl) ?_
           change wpAnyH _ _ _ _ _ _ _ _ (World.drew _)
           generalize x0.drew = x1 at *
           refine wpAnyH_take (i := 0) (v := ?v1) rfl (by kernel_rfl) (by kernel_rfl) (by kernel_rfl) (fun _ _ _ h => h) (Or.inl ⟨by rfl, ?y1⟩) HS ?r1
           case y1 =>
             intro w_ hS_
             go_simp
             try with_reducible rfl
           simp only [Act.put, List.getElem_toArray, List.getElem_cons_zero, List.setIfInBounds_toArray, List.set_cons_succ, List.set_cons_zero]
           refine wpAnyH_take (i := 1) (v := .agg #[.int .i64 no, .int .i64 wt, .func (.func k1) #[] a1, .func (.func k2) #[] a2, .func (.func k3) #[] a3]) rfl (by kernel_rfl) (by kernel_rfl) (by kernel_rfl) (fun _ _ _ h => h) (yieldsIf_load_mid (by rfl) 162 _ rfl gS 0 rfl [.int .i64 no, .int .i64 wt, .func (.func k1) #[] a1, .func (.func k2) #[] a2, .func (.func k3) #[] a3] _ (fun _ h => range_row ⟨_, h.1⟩) Tryz.underlying162 rfl infoSt') HS ?_
           simp only [Act.put, List.getElem_toArray, List.getElem_cons_succ, List.getElem_cons_zero, List.setIfInBounds_toArray, List.set_cons_succ, List.set_cons_zero]
           refine wpAnyH_take (i := 2) (v := ?v3) rfl (by kernel_rfl) (by kernel_rfl) (by kernel_rfl) (fun _ _ _ h => h) (Or.inl ⟨by rfl, ?y3⟩) HS ?r3
           case y3 =>
             intro w_ hS_
             go_simp
             try with_reducible rfl
           simp only [Act.put, List.getElem_toArray, List.getElem_cons_succ, List.getElem_cons_zero, List.setIfInBounds_toArray, List.set_cons_succ, List.set_cons_zero]
           refine wpAnyH_take (i := 3) (v := ?v4) rfl (by kernel_rfl) (by kernel_rfl) (by kernel_rfl) (fun _ _ _ h => h) (Or.inl ⟨by rfl, ?y4⟩) HS ?r4
           case y4 =>
             intro w_ hS_
             go_simp
             try with_reducible rfl
           simp only [Act.put, List.getElem_toArray, List.getElem_cons_succ, List.getElem_cons_zero, List.setIfInBounds_toArray, List.set_cons_succ, List.set_cons_zero]
           refine wpAnyH_take (i := 4) (v := ?v5) rfl (by kernel_rfl) (by kernel_rfl) (by kernel_rfl) (fun _ _ _ h => h) (Or.inl ⟨by rfl, ?y5⟩) HS ?r5
           case y5 =>
             intro w_ hS_
             go_simp
             try with_reducible rfl
           simp only [Act.put, List.getElem_toArray, List.getElem_cons_succ, List.getElem_cons_zero, List.setIfInBounds_toArray, List.set_cons_succ, List.set_cons_zero]
           refine wpAnyH_take (i := 5) (v := .agg #[.int .i64 fno, .int .i64 fty, .int .u64 (fnum : Int), .slice fda fdl fdc]) rfl (by kernel_rfl) (by kernel_rfl) (by kernel_rfl) (fun _ _ _ h => h) (yieldsIf_load_mid (by rfl) 70 _ rfl fb (k * 4) rfl [.int .i64 fno, .int .i64 fty, .int .u64 (fnum : Int), .slice fda fdl fdc] _ (fun _ h => h.2) Tryz.underlying70 rfl infoFi) HS ?_
           simp only [Act.put, List.getElem_toArray, List.getElem_cons_succ, List.getElem_cons_zero, List.setIfInBounds_toArray, List.set_cons_succ, List.set_cons_zero]
           refine wpAnyH_take (i := 6) (v := ?v7) rfl (by kernel_rfl) (by kernel_rfl) (by kernel_rfl) (fun _ _ _ h => h) (Or.inl ⟨by rfl, ?y7⟩) HS ?r7
           case y7 =>
             intro w_ hS_
             go_simp
             try with_reducible rfl
           simp only [Act.put, List.getElem_toArray, List.getElem_cons_succ, List.getElem_cons_zero, List.setIfInBounds_toArray, List.set_cons_succ, List.set_cons_zero]
           refine wpAnyH_one (k := 7) (fuel := 3) (by kernel_rfl) rfl (by kernel_rfl) (fun K_ hK => ?_)
           refine wp_call_up (base := x1.heap.size) (F := F) (R := fun v => v = .agg #[.int .u64 (fnum : Int), .slice fda fdl fdc, .slice none 0 0]) (B := fun w' => Below x1.heap.size x1 w') (by kernel_rfl) (cD.out x1 hby) ?_ ?_
           · intro hF v_ x2 hv hb_
             subst hv
             rw [hF] at eR
             have lgs := lt_of_row HS.1
             have szy1 := hby.size
             replace hOp := own_keep_row hOp hb_
             have szb_x2 := hb_.size
             have HS' : (fun W : World => W.heap[gS]? = some (.cells #[.int .i64 no, .int .i64 wt, .func (.func k1) #[] a1, .func (.func k2) #[] a2, .func (.func k3) #[] a3] 162 (0, 0)) ∧ W.rangeAt fb (k * 4) [.int .i64 fno, .int .i64 fty, .int .u64 (fnum : Int), .slice fda fdl fdc]) _ := ⟨keep hb_ HS.1, rangeS_keep2 HS.2 hb_ (by omega)⟩
             replace HS := HS'
             clear HS'
             replace hby := Below.after hby hb_
             clear hb_
             refine hK _ _ HS ?_
             simp only [Act.put, List.getElem_toArray, List.getElem_cons_succ, List.getElem_cons_zero, List.setIfInBounds_toArray, List.set_cons_succ, List.set_cons_zero]
             clear hK
             refine wpAnyH_one (k := 8) (fuel := 2) (by kernel_rfl) rfl (by kernel_rfl) (fun K_ hK => ?_)
             refine wp_world_op (.slice (some ⟨x2.heap.size, 0, none⟩) 1 1) (x2.alloc (.cells #[.int .u64 (fnum : Int), .slice fda fdl fdc, .slice none 0 0] 76)) (op_bv1 _ rfl _ _ _ rfl) ?_
             have NV := new_cells4 x2 #[.int .u64 (fnum : Int), .slice fda fdl fdc, .slice none 0 0] 76
             have hb_ : Below x2.heap.size x2 (x2.alloc (.cells #[.int .u64 (fnum : Int), .slice fda fdl fdc, .slice none 0 0] 76)) := (Below.refl _ _).alloc (Nat.le_refl _) _
             replace hOp := own_keep_row hOp hb_
             have szb_x3 := hb_.size
             have HS' : (fun W : World => W.heap[gS]? = some (.cells #[.int .i64 no, .int .i64 wt, .func (.func k1) #[] a1, .func (.func k2) #[] a2, .func (.func k3) #[] a3] 162 (0, 0)) ∧ W.rangeAt fb (k * 4) [.int .i64 fno, .int .i64 fty, .int .u64 (fnum : Int), .slice fda fdl fdc]) _ := ⟨keep hb_ HS.1, rangeS_keep2 HS.2 hb_ (by omega)⟩
             replace HS := HS'
             clear HS'
             replace hby := Below.after hby hb_
             clear hb_
             refine hK _ _ HS ?_
             simp only [Act.put, List.getElem_toArray, List.getElem_cons_succ, List.getElem_cons_zero, List.setIfInBounds_toArray, List.set_cons_succ, List.set_cons_zero]
             clear hK
             generalize x2.alloc (.cells #[.int .u64 (fnum : Int), .slice fda fdl fdc, .slice none 0 0] 76) = x3 at *
             generalize x2.heap.size = gV at *
             refine wpAnyH_one (k := 9) (fuel := 1) (by kernel_rfl) rfl (by kernel_rfl) (fun K_ hK => ?_)
             obtain ⟨iV, hiV, hiz, his, hib⟩ := infoVI
             refine wp_append_nx _ _ 74 rfl y.heap.size 76 iV (.agg #[.int .u64 0, .slice none 0 0, .slice none 0 0]) 3 56 Tryz.underlying74 hiV hiz his hib rfl (by decide) pv k (vrk fs us k) rfl hOp ⟨gV, 0, none⟩ 1 1 [.int .u64 (fnum : Int), .slice fda fdl fdc, .slice none 0 0] rfl rfl NV (fun x hx => ?_) (by unfold maxLen; omega) (by omega) hby.size (fun pv' x4 hO4 hgr _ => ?_)
             · simp at hx
               rcases hx with rfl | rfl | rfl <;> rfl
             have HS4 : (fun W : World => W.heap[gS]? = some (.cells #[.int .i64 no, .int .i64 wt, .func (.func k1) #[] a1, .func (.func k2) #[] a2, .func (.func k3) #[] a3] 162 (0, 0)) ∧ W.rangeAt fb (k * 4) [.int .i64 fno, .int .i64 fty, .int .u64 (fnum : Int), .slice fda fdl fdc]) x4 := ⟨(hgr.block gS (lt_of_row HS.1) (fun e => by have := (hpo gS e.symm).2; omega)).trans HS.1, fun j v hv => (World.cell?_of_block (hgr.block fb (by omega) (fun e => by have := (hpo fb e.symm).1; omega))).trans (HS.2 j v hv)⟩
             have szy := hby.size
             replace hby := hby.grown hgr szy (fun z e => (hpo z e).1)
             refine hK _ _ HS4 ?_
             simp only [Act.put, List.getElem_toArray, List.getElem_cons_succ, List.getElem_cons_zero, List.setIfInBounds_toArray, List.set_cons_succ, List.set_cons_zero]
             clear hK HS hOp
             refine wpAnyH_take (i := 10) (v := ?v99) rfl (by kernel_rfl) (by kernel_rfl) (by kernel_rfl) (fun _ _ _ h => h) (Or.inl ⟨by rfl, ?y99⟩) HS4 ?r99
             case y99 =>
               intro w_ hS_
               go_simp
               try with_reducible rfl
             simp only [Act.put, List.getElem_toArray, List.getElem_cons_succ, List.getElem_cons_zero, List.setIfInBounds_toArray, List.set_cons_succ, List.set_cons_zero]
             refine wpAnyH_done (by kernel_rfl) ?_ _
             have hF4 := HS4.2
             clear HS4 NV
             replace hO4 := hide hO4
             replace hby := hide hby
             go_wp2_with (first | (refine wpList_load_mid rfl 70 _ rfl fb (k * 4) rfl _ _ hF4 Tryz.underlying70 rfl infoFi ?_) | fail)
             refine (cE.out x4).mono ?_
             rintro e_ x5 ⟨_, rfl, rfl, hb_⟩
             replace hO4 := hide (own_keep_row hO4.out hb_)
             replace hby := hide (Below.after hby.out hb_)
             clear hb_ cE hF4
             go_wp2_with (fail)
             refine ⟨⟨k + 1, by omega, by omega, by go_num, by rw [hat1.out], eR.out, by rw [hvk.out]; exact hO4.out, hby.out⟩, ?_⟩
             simp [intOf]; omega
           · intro x hF g x2 h1_ h2_ hb_
             rw [hF] at eR
             have szx := hby.size
             have szy := hw0.out.size
             replace hby := Below.after hby hb_
             go_wp2_with (fail)
             rw [eR.out]
             exact ⟨rfl, ⟨g, rfl, by omega, h2_⟩, hw0.out.trans (hby.mono (by omega))⟩
       · obtain rfl : k = ts.length := by omega
         generalize u10 = pv at *
         have hdk : decide ((ts.length : Int) < (ts.length : Int)) = false := by simp
         have szy := hby.size
         clear h hfl hkn hfok hnn
         by_cases hlf : ts.length < fs.length
         · rw [dcF_long rfl hlf] at eR
           have hdl : decide ((ts.length : Int) < (fs.length : Int)) = true := by simp; omega
           replace eR := hide eR
           replace hby := hide hby
           clear hOp
           generalize from_ + ((ebs (fs.take ts.length)).length : Int) = at_ at *
           go_wp2_with (fail)
           refine (a_giveUp 0 at_ 81 _).mono ?_
           rintro e_ x2 ⟨⟨g, rfl, hgl, hgr⟩, hb2⟩
           have szx := hby.out.size
           have szy := hw0.out.size
           have hz := Below.after hby.out hb2
           go_wp2
           rw [eR.out]
           exact ⟨rfl, ⟨g, rfl, by omega, hgr⟩, hw0.out.trans (hz.mono (by omega))⟩
         · have hle : fs.length = ts.length := by omega
           rw [dcF_end rfl hle] at eR
           have hdl : decide ((ts.length : Int) < (fs.length : Int)) = false := by simp; omega
           rw [← hle] at hOp
           obtain ⟨po, pn, pc, rfl⟩ : ∃ po pn pc, pv = .slice po pn pc := by
             obtain ⟨_, ⟨rfl, _⟩ | ⟨g, cap, cur, rfl, _⟩⟩ := hOp
             · exact ⟨_, _, _, rfl⟩
             · exact ⟨_, _, _, rfl⟩
           have rZ3 := (hby.block w.heap.size (by omega)).trans rZ1.out
           have hone : (#[Value.int .u64 0, .slice none 0 0, .slice po pn pc] : Array Value).all (·.oneCell') = true := by simp [Value.oneCell']
           have hmv : ∀ g o, w.heap.size < g → wr.heap[g]? = some o → (wr.setRow w.heap.size #[.int .u64 0, .slice none 0 0, .slice po pn pc]).heap[g]? = some o := fun g o hg ho => (setRow_other wr w.heap.size g #[.int .u64 0, .slice none 0 0, .slice po pn pc] (by omega)).trans ho
           have RF := hide (setRow_heap wr w.heap.size _ #[.int .u64 0, .slice none 0 0, .slice po pn pc] _ _ rZ3)
           have hwF := hide (below_setRow (g := w.heap.size) (hw0.out.trans (hby.mono (by omega))) (Nat.le_refl _) #[.int .u64 0, .slice none 0 0, .slice po pn pc])
           have hOF := hide (own_down_row (own_move_row hOp (fun g o hg ho => hmv g o (by omega) ho)) (show w.heap.size ≤ y.heap.size by omega))
           have hFF := hide (Fts.down (Fts.move (hFt.out.keep hby) (fun g o hg ho => hmv g o (by omega) ho)) (show w.heap.size ≤ w0.heap.size by omega))
           replace eR := hide eR
           clear hOp hby hmv hFt hw0 hwy rZ1
           replace hle := hide hle
           go_wp2_with (first | (refine wpList_store_row rfl 76 _ _ rfl w.heap.size #[.int .u64 0, .slice none 0 0, .slice po pn pc] rfl rfl 76 _ rZ3 infoV rfl hone ?_) | fail)
           refine bodyPost_ret (v := .agg #[.int .u64 0, .slice none 0 0, .slice po pn pc]) (results_cell_row Tryz.results59 _ _ w.heap.size _ _ _ _ rfl RF.out Tryz.underlying76 rfl infoV) rfl ⟨?_, hwF.out⟩
           rw [eR.out]
           exact ⟨_, rfl, _, _, us, rfl, by rw [hfs.out]; exact hOF.out, by rw [hfs.out]; exact hFF.out⟩
   · have eR : R = some ⟨0, from_ + dpl (dwh d), der (dwh d)⟩ := by rw [← hR, dec8, if_pos hde]
     have hd1 : (der (dwh d) == 0) = false := by simpa using hde
     replace eR := hide eR
     replace hde := hide hde
     have hpl := dpl_bd d
     clear hR h hfl hnn hFt
     generalize der (dwh d) = E at *
     generalize dpl (dwh d) = pl at *
     have hb9 := hw0.out
     go_wp2_with (fail)
     refine (a_giveUp 0 (from_ + pl) E _).mono ?_
     rintro e_ x2 ⟨⟨g, rfl, hgl, hgr⟩, hb2⟩
     have szx := (Below.refl y.heap.size y).size
     have szy := hw0.out.size
     have hz := Below.after (Below.refl y.heap.size y) hb2
     go_wp2
     rw [eR.out]
     exact ⟨rfl, ⟨g, rfl, by omega, hgr⟩, hw0.out.trans (hz.mono (by omega))⟩
end Go.Proofs.YtlbndkfllegacaaGreatDoor
namespace Go.Proofs.YtlbndkfllegacaaGreatDoor
set_option maxRecDepth 100000
open Go Go.RowKit Go.Sort
attribute [local go_sem] setCell_drewN alloc_drewN
theorem But.setRow {g : Nat} (w : World) (cs : Array Value) : But g w (w.setRow g cs) := ⟨rfl, rfl, rfl, by simp, fun k _ hne => setRow_other w g k cs hne⟩
theorem But.keepBx {g : Nat} {w w' : World} (h : But g w w') {k : Nat} {c : Array Value} (hk : Bx w k c) (hne : k ≠ g) : Bx w' k c := by
 obtain ⟨T, hk⟩ := hk
 exact ⟨T, h.row hk hne⟩
theorem results_row_slot {P : Program} {fn : Func} {p q : Tmp} {ty : TypeId} (h : fn.results = #[.cell p ty, .tmp q]) (tmps : Array Value) (w : World) (g : Nat) (t : TypeId) (cs : Array Value) (fr : Nat × Nat) (d : TypeDesc) (v : Value)
   (hp : tmps.getD p undef = .pointer (some ⟨g, 0, none⟩)) (hg : w.heap[g]? = some (.cells cs t fr)) (hq : tmps.getD q undef = v)
   (hu : P.underlying ty = some d) (hd : (match d with | .struct _ | .array _ _ => true | _ => false) = true) (hi : (P.info? ty).map (·.size) = some cs.size) :
   (results fn tmps).run P w = .ok (.tuple #[.agg cs, v]) w := by
 have hp' : tmps[p]?.getD undef = .pointer (some ⟨g, 0, none⟩) := by simpa using hp
 have hq' : tmps[q]?.getD undef = v := by simpa using hq
 simp [results, h, hp', hq', asAddr, run_loadVar_row w g t ty cs fr d hg hu hd hi]
set_option maxRecDepth 100000 in
set_option maxHeartbeats 8000000 in
theorem a_decode1 (F : Option Flt3) (Rs : World → Value → Prop) (bc bb bv g : Nat) (b : Value) (xo : Option Addr) (xn xc : Nat) (lo hi : Int) (cur : Array Value) (hcur : cur.size = 3) (w : World)
   (hc : Bx w bc #[.pointer (some ⟨g, 0, none⟩)]) (hb : Bx w bb #[b]) (hg : Bx w g #[.slice xo xn xc, .int .i64 lo, .int .i64 hi]) (hv : w.heap[bv]? = some (.cells cur 76 (0, 0))) (hbs : ∃ ao l c, b = .slice ao l c)
   (cC : ∀ V, Below w.heap.size w V → Calls Tryz.prog 59 #[.slice xo xn xc, b, .int .i64 0] V fun e w' => Gup V.heap.size F e w' (fun u => ∃ pv, u = .agg #[.int .u64 0, .slice none 0 0, pv] ∧ pv.oneCell' = true ∧ Rs w' pv) ∧ Below V.heap.size V w')
   (hst : ∀ V V' pv, w.heap.size ≤ V.heap.size → Rs V pv → But bv V V' → Rs V' pv) (hne : bc ≠ bv ∧ bb ≠ bv ∧ g ≠ bv) :
   Calls Tryz.prog 58 #[.pointer (some ⟨bc, 0, none⟩), .pointer (some ⟨bb, 0, none⟩), .pointer (some ⟨bv, 0, none⟩)] w fun e w' => Gup w.heap.size F e w' (fun v => v = .tuple #[] ∧ ∃ pv, w'.heap[bv]? = some (.cells #[.int .u64 0, .slice none 0 0, pv] 76 (0, 0)) ∧ Rs w' pv) ∧ ((F ≠ none → Below w.heap.size w w') ∧ But bv w w') := by
 obtain ⟨bao, bl_, bcc, rfl⟩ := hbs
 go_enter Tryz.func58, Tryz.ntmps58
 have hbd : Below w.heap.size w w.drew := below_drN (Below.refl _ _) 1
 have hS0 : (fun W : World => Bx W bc #[.pointer (some ⟨g, 0, none⟩)] ∧ Bx W bb #[.slice bao bl_ bcc] ∧ Bx W g #[.slice xo xn xc, .int .i64 lo, .int .i64 hi]) w.drew := ⟨hc.keep hbd, hb.keep hbd, hg.keep hbd⟩
 have hv1 := keep hbd hv
 have cC2 := hide (cC w.drew hbd)
 have lbv := lt_of_row hv
 clear cC
 refine wp_region_held (S := fun W : World => Bx W bc #[.pointer (some ⟨g, 0, none⟩)] ∧ Bx W bb #[.slice bao bl_ bcc] ∧ Bx W g #[.slice xo xn xc, .int .i64 lo, .int .i64 hi]) (by kernel_rfl) ?_
 change wpAnyH _ _ _ _ _ _ _ _ (World.drew _)
 generalize w.drew = w1 at *
 refine wpAnyH_take (i := 0) (v := .pointer (some ⟨g, 0, none⟩)) rfl (by kernel_rfl) (by kernel_rfl) (by kernel_rfl) (fun _ _ _ h => h) (Or.inl ⟨by rfl, ?y8⟩) hS0 ?r8
 case y8 =>
   intro w_ hS_
   obtain ⟨_, h_⟩ := hS_.1
   have c_ := cell_of_row _ _ 0 _ _ _ h_
   go_simp
   try with_reducible rfl
 simp only [Act.put, List.getElem_toArray, List.getElem_cons_zero, List.setIfInBounds_toArray, List.set_cons_succ, List.set_cons_zero]
 refine wpAnyH_take (i := 1) (v := ?v9) rfl (by kernel_rfl) (by kernel_rfl) (by kernel_rfl) (fun _ _ _ h => h) (Or.inl ⟨by rfl, ?y9⟩) hS0 ?r9
 case y9 =>
   intro w_ hS_
   go_simp
   try with_reducible rfl
 simp only [Act.put, List.getElem_toArray, List.getElem_cons_succ, List.getElem_cons_zero, List.setIfInBounds_toArray, List.set_cons_succ, List.set_cons_zero]
 refine wpAnyH_take (i := 2) (v := ?v10) rfl (by kernel_rfl) (by kernel_rfl) (by kernel_rfl) (fun _ _ _ h => h) (Or.inl ⟨by rfl, ?y10⟩) hS0 ?r10
 case y10 =>
   intro w_ hS_
   go_simp
   try with_reducible rfl
 simp only [Act.put, List.getElem_toArray, List.getElem_cons_succ, List.getElem_cons_zero, List.setIfInBounds_toArray, List.set_cons_succ, List.set_cons_zero]
 refine wpAnyH_take (i := 3) (v := .slice xo xn xc) rfl (by kernel_rfl) (by kernel_rfl) (by kernel_rfl) (fun _ _ _ h => h) (Or.inl ⟨by rfl, ?y11⟩) hS0 ?r11
 case y11 =>
   intro w_ hS_
   obtain ⟨_, h_⟩ := hS_.2.2
   have c_ := cell_of_row _ _ 0 _ _ _ h_
   go_simp
   try with_reducible rfl
 simp only [Act.put, List.getElem_toArray, List.getElem_cons_succ, List.getElem_cons_zero, List.setIfInBounds_toArray, List.set_cons_succ, List.set_cons_zero]
 refine wpAnyH_take (i := 4) (v := .slice bao bl_ bcc) rfl (by kernel_rfl) (by kernel_rfl) (by kernel_rfl) (fun _ _ _ h => h) (Or.inl ⟨by rfl, ?y12⟩) hS0 ?r12
 case y12 =>
   intro w_ hS_
   obtain ⟨_, h_⟩ := hS_.2.1
   have c_ := cell_of_row _ _ 0 _ _ _ h_
   go_simp
   try with_reducible rfl
 simp only [Act.put, List.getElem_toArray, List.getElem_cons_succ, List.getElem_cons_zero, List.setIfInBounds_toArray, List.set_cons_succ, List.set_cons_zero]
 refine wpAnyH_one (k := 5) (fuel := 1) (by kernel_rfl) rfl (by kernel_rfl) (fun K_ hK => ?_)
 refine wp_call_upW w1.heap.size F (fun u w' => ∃ pv, u = .agg #[.int .u64 0, .slice none 0 0, pv] ∧ pv.oneCell' = true ∧ Rs w' pv) (fun w' => Below w1.heap.size w1 w') (by kernel_rfl) cC2.out ?_ ?_
 · intro hF v_ w4 hX hb4
   obtain ⟨pv, rfl, hpo, hRs⟩ := hX
   subst hF
   have hS4 := (⟨hS0.1.keep hb4, hS0.2.1.keep hb4, hS0.2.2.keep hb4⟩ : (fun W : World => Bx W bc #[.pointer (some ⟨g, 0, none⟩)] ∧ Bx W bb #[.slice bao bl_ bcc] ∧ Bx W g #[.slice xo xn xc, .int .i64 lo, .int .i64 hi]) w4)
   have hv4 := keep hb4 hv1
   have hw4 := Below.after hbd hb4
   refine hK _ _ hS4 ?_
   simp only [Act.put, List.getElem_toArray, List.getElem_cons_succ, List.getElem_cons_zero, List.setIfInBounds_toArray, List.set_cons_succ, List.set_cons_zero]
   clear hK
   have hone : (#[Value.int .u64 0, .slice none 0 0, pv] : Array Value).all (·.oneCell') = true := by simp [Value.oneCell'] at hpo ⊢; exact hpo
   refine wpAnyH_one (k := 6) (fuel := 0) (by kernel_rfl) rfl (by kernel_rfl) (fun K_ hK => ?_)
   refine wp_store_row 76 _ _ rfl bv #[.int .u64 0, .slice none 0 0, pv] rfl rfl 76 _ hv4 infoV (by rw [hcur]; rfl) hone ?_
   have hB5 := But.setRow (g := bv) w4 #[.int .u64 0, .slice none 0 0, pv]
   have hv5 := setRow_heap w4 bv _ #[.int .u64 0, .slice none 0 0, pv] _ _ hv4
   have hRs5 := hst _ _ _ hw4.size hRs hB5
   have hbut := (But.of hw4).trans hB5
   refine hK _ _ ?_ ?_
   · exact ⟨hB5.keepBx hS4.1 hne.1, hB5.keepBx hS4.2.1 hne.2.1, hB5.keepBx hS4.2.2 hne.2.2⟩
   simp only [Act.put]
   clear hK
   refine wpAnyH_done (by kernel_rfl) ?_ _
   have A1 := hide hv5
   have A2 := hide hRs5
   have A3 := hide hbut
   clear hv5 hRs5 hbut hB5 hS4 hv4 hw4 hRs hS0
   go_wp2_with (fail)
   go_end0
   exact ⟨⟨_, rfl, rfl, pv, A1.out, A2.out⟩, fun h => absurd rfl h, A3.out⟩
 · intro x hF g4 w4 h1 h2 hb4
   subst hF
   have hw4 := Below.after hbd hb4
   have sz1 := hbd.size
   go_wp2_with (fail)
   exact ⟨rfl, ⟨g4, rfl, by omega, h2⟩, fun _ => hw4, But.of hw4⟩
def CgtQ (base : Nat) (f : Option Flt3) (Q : World → Prop) (e : Ending) (w' : World) : Prop :=
 match f with
 | none => e = .returned .nilIface ∧ Q w'
 | some x => ∃ g, e = .returned (.iface 85 (.pointer (some ⟨g, 0, none⟩))) ∧ base ≤ g ∧ w'.heap[g]? = some (.cells (frw x) 35 (0, 0))
set_option maxRecDepth 100000 in
set_option maxHeartbeats 8000000 in
theorem a_caughtD (F : Option Flt3) (Q : World → Prop) (ca cb cc : Value) (bv : Nat) (w : World) (hbv : bv < w.heap.size)
   (hQ : ∀ V V', Q V → But w.heap.size V V' → Q V')
   (hD : ∀ V, Below w.heap.size w V → w.heap.size < V.heap.size → Calls Tryz.prog 58 #[ca, cb, cc] V fun e w' => Gup V.heap.size F e w' (fun v => v = .tuple #[] ∧ Q w') ∧ ((F ≠ none → Below V.heap.size V w') ∧ But bv V w')) :
   Calls Tryz.prog 57 #[.func (.func 58) #[] #[ca, cb, cc]] w fun e w' => CgtQ w.heap.size F Q e w' ∧ ((F ≠ none → Below w.heap.size w w') ∧ But bv w w') := by
 have h0 := hmf
 have hb0 : Below w.heap.size w (w.alloc (.cells #[.nilIface] 30)) := (Below.refl _ _).alloc (Nat.le_refl _) _
 have r0 := hp1_0 w (.cells #[.nilIface] 30)
 have cD := hD _ hb0 (by simp)
 clear hD
 go_enter_defers Tryz.func57, Tryz.ntmps57
 go_wp2_with (fail)
 refine cD.mono ?_
 rintro e_ w1 ⟨hG, hbn, hB⟩
 have r1 := hB.row r0 (by omega)
 have c1 : w1.cell? ⟨w.heap.size, 0, none⟩ = some .nilIface := by rw [cell_of_row _ _ _ _ _ _ r1]; rfl
 have f1 := row_frozen r1 0
 have hBw : But bv w w1 := (But.of hb0).trans hB
 cases F with
 | none =>
   obtain ⟨v, rfl, rfl, hQ1⟩ := hG
   have r2 := heap_setCell_same w1 w.heap.size 0 _ _ .nilIface r1
   have hB2 := But.set (g := w.heap.size) w1 .nilIface
   have hQ2 := hQ _ _ hQ1 hB2
   have hBF : But bv w (w1.setCell ⟨w.heap.size, 0, none⟩ .nilIface) := ⟨hB2.os.trans hBw.os, hB2.tape.trans hBw.tape, hB2.output.trans hBw.output, Nat.le_trans hBw.size hB2.size, fun k hk hne => (hB2.block k (Nat.lt_of_lt_of_le hk hBw.size) (by omega)).trans (hBw.block k hk hne)⟩
   have c2 : (w1.setCell ⟨w.heap.size, 0, none⟩ .nilIface).cell? ⟨w.heap.size, 0, none⟩ = some .nilIface := by rw [cell_of_row _ _ _ _ _ _ r2]; rfl
   go_wp2
   refine leaves_cons (f := 81) (args := #[.pointer (some ⟨w.heap.size, 0, none⟩)]) (by simp) (by simp [go_sem]) ?_
   refine (catch_idle ⟨w.heap.size, 0, none⟩ _).mono ?_
   rintro e u' w'' ⟨rfl, rfl, rfl⟩
   simp [Leaves, settle, results, Tryz.results57, go_sem, c2]
   exact ⟨⟨rfl, hQ2⟩, hBF⟩
 | some f =>
   obtain ⟨g, rfl, hg1, hg2⟩ := hG
   have hb1 := hbn (by simp)
   have hw := Below.after hb0 hb1
   have r2 := heap_setCell_same w1 w.heap.size 0 _ _ (.iface 85 (.pointer (some ⟨g, 0, none⟩))) r1
   have hw2 := hw.setCell (show w.heap.size ≤ (⟨w.heap.size, 0, none⟩ : Addr).block from Nat.le_refl _) (.iface 85 (.pointer (some ⟨g, 0, none⟩)))
   have c2 : (w1.setCell ⟨w.heap.size, 0, none⟩ (.iface 85 (.pointer (some ⟨g, 0, none⟩)))).cell? ⟨w.heap.size, 0, none⟩ = some (.iface 85 (.pointer (some ⟨g, 0, none⟩))) := by rw [cell_of_row _ _ _ _ _ _ r2]; rfl
   go_wp2
   refine leaves_cons (f := 81) (args := #[.pointer (some ⟨w.heap.size, 0, none⟩)]) (by simp) (by simp [go_sem]) ?_
   refine (catch_panicking ⟨w.heap.size, 0, none⟩ .nilIface g [] _ c1 f1).mono ?_
   rintro e u' w'' ⟨rfl, rfl, rfl⟩
   simp [Leaves, settle, results, Tryz.results57, go_sem, c2]
   rw [size_alloc1] at hg1
   exact ⟨⟨g, rfl, by omega, (heap_setCell_other w1 ⟨w.heap.size, 0, none⟩ g _ (show g ≠ w.heap.size by omega)).trans hg2⟩, hw2, But.of hw2⟩
def Dcr (base : Nat) (ts : List Slt) (d : List B) (e : Ending) (w' : World) : Prop :=
 match dec8 ts d 0 with
 | none => ∃ pv fv us, e = .returned (.tuple #[.agg #[.int .u64 0, .slice none 0 0, pv], .nilIface]) ∧ w'.ownsRow base 76 3 pv (dfs (dwh d)).length (vrk (dfs (dwh d)) us (dfs (dwh d)).length) ∧ Fts w' base fv us (dfs (dwh d))
 | some x => ∃ g, e = .returned (.tuple #[.agg #[.int .u64 0, .slice none 0 0, .slice none 0 0], .iface 85 (.pointer (some ⟨g, 0, none⟩))]) ∧ base ≤ g ∧ w'.heap[g]? = some (.cells (frw x) 35 (0, 0))
set_option maxRecDepth 100000 in
set_option maxHeartbeats 8000000 in
theorem a_DecodeF {g : Nat} {ts : List Slt} (hfl : ∀ i, i < ts.length → Fla (gs ts i)) (d : List B) (b : Value) (w : World) (hC : Cdc w g ts) (hB : BysB w b d) (hcap : ∀ a l c, b = .slice a l c → l ≤ c) :
   Calls Tryz.prog 30 #[.pointer (some ⟨g, 0, none⟩), b] w fun e w' => Dcr w.heap.size ts d e w' ∧ Below w.heap.size w w' := by
 obtain ⟨bao, bcc, rfl⟩ := hB.form
 generalize hbl : d.length = bl_ at *
 obtain ⟨x, hx, hg⟩ := hC
 obtain ⟨xo, xc, rfl⟩ := hx.form
 have lg := lt_of_row hg
 have r0 := hp4_0 w (.cells #[.pointer (some ⟨g, 0, none⟩)] 78) (.cells #[.slice bao bl_ bcc] 22) (.cells #[.int .u64 0, .slice none 0 0, .slice none 0 0] 76) (.cells #[.int .u64 0, .slice none 0 0, .slice none 0 0] 76)
 have r1 := hp4_1 w (.cells #[.pointer (some ⟨g, 0, none⟩)] 78) (.cells #[.slice bao bl_ bcc] 22) (.cells #[.int .u64 0, .slice none 0 0, .slice none 0 0] 76) (.cells #[.int .u64 0, .slice none 0 0, .slice none 0 0] 76)
 have r2 := hp4_2 w (.cells #[.pointer (some ⟨g, 0, none⟩)] 78) (.cells #[.slice bao bl_ bcc] 22) (.cells #[.int .u64 0, .slice none 0 0, .slice none 0 0] 76) (.cells #[.int .u64 0, .slice none 0 0, .slice none 0 0] 76)
 have r3 := hp4_3 w (.cells #[.pointer (some ⟨g, 0, none⟩)] 78) (.cells #[.slice bao bl_ bcc] 22) (.cells #[.int .u64 0, .slice none 0 0, .slice none 0 0] 76) (.cells #[.int .u64 0, .slice none 0 0, .slice none 0 0] 76)
 have hb : Below w.heap.size w ((((w.alloc (.cells #[.pointer (some ⟨g, 0, none⟩)] 78)).alloc (.cells #[.slice bao bl_ bcc] 22)).alloc (.cells #[.int .u64 0, .slice none 0 0, .slice none 0 0] 76)).alloc (.cells #[.int .u64 0, .slice none 0 0, .slice none 0 0] 76)) := ((((Below.refl _ _).alloc (Nat.le_refl _) _).alloc (by simp) _).alloc (by simp; omega) _).alloc (by simp; omega) _
 have hsz : ((((w.alloc (.cells #[.pointer (some ⟨g, 0, none⟩)] 78)).alloc (.cells #[.slice bao bl_ bcc] 22)).alloc (.cells #[.int .u64 0, .slice none 0 0, .slice none 0 0] 76)).alloc (.cells #[.int .u64 0, .slice none 0 0, .slice none 0 0] 76)).heap.size = w.heap.size + 4 := by simp
 have hB4 := hB.keep hb
 have h0 := hmf
 have hrd : Bx ((((w.alloc (.cells #[.pointer (some ⟨g, 0, none⟩)] 78)).alloc (.cells #[.slice bao bl_ bcc] 22)).alloc (.cells #[.int .u64 0, .slice none 0 0, .slice none 0 0] 76)).alloc (.cells #[.int .u64 0, .slice none 0 0, .slice none 0 0] 76)) g #[.slice xo ts.length xc, .int .i64 ((prS ts).1 : Int), .int .i64 ((prS ts).2 : Int)] := ⟨_, (hb.block g lg).trans hg⟩
 have b0 : Bx ((((w.alloc (.cells #[.pointer (some ⟨g, 0, none⟩)] 78)).alloc (.cells #[.slice bao bl_ bcc] 22)).alloc (.cells #[.int .u64 0, .slice none 0 0, .slice none 0 0] 76)).alloc (.cells #[.int .u64 0, .slice none 0 0, .slice none 0 0] 76)) w.heap.size #[.pointer (some ⟨g, 0, none⟩)] := ⟨_, r0⟩
 have b1 : Bx ((((w.alloc (.cells #[.pointer (some ⟨g, 0, none⟩)] 78)).alloc (.cells #[.slice bao bl_ bcc] 22)).alloc (.cells #[.int .u64 0, .slice none 0 0, .slice none 0 0] 76)).alloc (.cells #[.int .u64 0, .slice none 0 0, .slice none 0 0] 76)) (w.heap.size + 1) #[.slice bao bl_ bcc] := ⟨_, r1⟩
 go_enter Tryz.func30, Tryz.ntmps30
 go_upto_region 2 with (fail)
 generalize ((((w.alloc (.cells #[.pointer (some ⟨g, 0, none⟩)] 78)).alloc (.cells #[.slice bao bl_ bcc] 22)).alloc (.cells #[.int .u64 0, .slice none 0 0, .slice none 0 0] 76)).alloc (.cells #[.int .u64 0, .slice none 0 0, .slice none 0 0] 76)) = w4 at *
 obtain ⟨Rs, hRs⟩ : ∃ Rs : World → Value → Prop, Rs = fun W_ pv_ => ∃ fv us, W_.ownsRow (w.heap.size + 5) 76 3 pv_ (dfs (dwh d)).length (vrk (dfs (dwh d)) us (dfs (dwh d)).length) ∧ Fts W_ (w.heap.size + 5) fv us (dfs (dwh d)) := ⟨_, rfl⟩
 have hst : ∀ V V' pv g', g' < w.heap.size + 5 → Rs V pv → But g' V V' → Rs V' pv := by
   intro V V' pv g' hg' hr hbut
   rw [hRs] at hr ⊢
   obtain ⟨fv, us, ho, hf⟩ := hr
   exact ⟨fv, us, own_move_row ho (fun z o hz hzo => hbut.row hzo (by omega)), Fts.move hf (fun z o hz hzo => hbut.row hzo (by omega))⟩
 have cS : ∀ V, Below w4.heap.size w4 V → w4.heap.size < V.heap.size → Calls Tryz.prog 59 #[.slice xo ts.length xc, .slice bao bl_ bcc, .int .i64 0] V fun e w' => Gup V.heap.size (dec8 ts d 0) e w' (fun u => ∃ pv, u = .agg #[.int .u64 0, .slice none 0 0, pv] ∧ pv.oneCell' = true ∧ Rs w' pv) ∧ Below V.heap.size V w' := by
   intro V hV hlt
   refine (a_decodeF hx hfl d (.slice bao bl_ bcc) 0 (by omega) V (Below.after hb hV) (hB4.keep hV) hcap).mono fun e w' hX => ⟨?_, hX.2⟩
   have hX1 := hX.1
   generalize dec8 ts d 0 = F at *
   cases F with
   | none =>
     obtain ⟨u, he, pv, fv, us, hu, ho, hf⟩ := hX1
     refine ⟨u, he, pv, hu, own_cell_row ho, ?_⟩
     rw [hRs]
     exact ⟨fv, us, own_down_row ho (by omega), Fts.down hf (by omega)⟩
   | some x => exact hX1
 have cA := a_caughtD (dec8 ts d 0) (fun V => ∃ pv, V.heap[w.heap.size + 1 + 1 + 1]? = some (.cells #[.int .u64 0, .slice none 0 0, pv] 76 (0, 0)) ∧ Rs V pv) (.pointer (some ⟨w.heap.size, 0, none⟩)) (.pointer (some ⟨w.heap.size + 1, 0, none⟩)) (.pointer (some ⟨w.heap.size + 1 + 1 + 1, 0, none⟩)) (w.heap.size + 1 + 1 + 1) w4 (by omega)
   (fun V V' hq hbut => by
     obtain ⟨pv, hq1, hq2⟩ := hq
     exact ⟨pv, hbut.row hq1 (by omega), hst V V' pv _ (by omega) hq2 hbut⟩)
   (fun V hV hlt => a_decode1 (dec8 ts d 0) Rs w.heap.size (w.heap.size + 1) (w.heap.size + 1 + 1 + 1) g (.slice bao bl_ bcc) xo ts.length xc _ _ #[.int .u64 0, .slice none 0 0, .slice none 0 0] rfl V (b0.keep hV) (b1.keep hV) (hrd.keep hV) (keep hV r3) ⟨_, _, _, rfl⟩ (fun V' hV' => cS V' (Below.after hV hV') (Nat.lt_of_lt_of_le hlt hV'.size)) (fun V1 V2 pv _ hr hbut => hst V1 V2 pv _ (by omega) hr hbut) ⟨by omega, by omega, by omega⟩)
 replace cA := hide cA
 clear cS b0 b1 hrd hB4 hx hB hcap
 go_wp2_with (fail)
 refine cA.out.mono ?_
 rintro e_ w5 ⟨hG, hbn, hBt⟩
 have r25 := hBt.row r2 (by omega)
 have hw5 := But.after hb (by omega) hBt
 clear cA
 obtain ⟨R, hR⟩ : ∃ R, dec8 ts d 0 = R := ⟨_, rfl⟩
 rw [hR] at hG hbn
 replace hR := hide hR
 cases R with
 | none =>
   obtain ⟨rfl, pv, r35, hr⟩ := hG
   have hr' := hst _ (w5.setRow (w.heap.size + 1 + 1) #[.int .u64 0, .slice none 0 0, pv]) _ _ (by omega) hr (But.setRow (g := w.heap.size + 1 + 1) w5 #[.int .u64 0, .slice none 0 0, pv])
   rw [hRs] at hr'
   obtain ⟨fv, us, ho, hf⟩ := hr'
   have hpo := own_cell_row ho
   have hone : (#[Value.int .u64 0, .slice none 0 0, pv] : Array Value).all (·.oneCell') = true := by simp [Value.oneCell'] at hpo ⊢; exact hpo
   have RF := hide (setRow_heap _ (w.heap.size + 1 + 1) _ #[.int .u64 0, .slice none 0 0, pv] _ _ r25)
   have hwF := hide (below_setRow (g := w.heap.size + 1 + 1) hw5 (by omega) #[.int .u64 0, .slice none 0 0, pv])
   replace ho := hide ho
   replace hf := hide hf
   clear hr hBt hbn hw5 hb hRs hst hpo
   go_wp2_with (first | (refine wpList_load_want rfl 76 _ rfl (w.heap.size + 1 + 1 + 1) rfl 76 #[.int .u64 0, .slice none 0 0, pv] (0, 0) _ r35 Tryz.underlying76 rfl infoV ?_) | (refine wpList_store_row rfl 76 _ _ rfl (w.heap.size + 1 + 1) #[.int .u64 0, .slice none 0 0, pv] rfl rfl 76 _ r25 infoV rfl hone ?_) | fail)
   refine bodyPost_ret (results_row_slot Tryz.results30 _ _ (w.heap.size + 1 + 1) _ _ _ _ _ rfl RF.out rfl Tryz.underlying76 rfl infoV) rfl ⟨?_, hwF.out⟩
   unfold Dcr
   rw [hR.out]
   exact ⟨pv, fv, us, rfl, own_down_row ho.out (by omega), Fts.down hf.out (by omega)⟩
 | some x =>
   obtain ⟨q, rfl, hq1, hq2⟩ := hG
   have r35 := keep (hbn (by simp)) r3
   have hone : (#[Value.int .u64 0, .slice none 0 0, .slice none 0 0] : Array Value).all (·.oneCell') = true := by simp [Value.oneCell']
   have RF := hide (setRow_heap _ (w.heap.size + 1 + 1) _ #[.int .u64 0, .slice none 0 0, .slice none 0 0] _ _ r25)
   have hwF := hide (below_setRow (g := w.heap.size + 1 + 1) hw5 (by omega) #[.int .u64 0, .slice none 0 0, .slice none 0 0])
   have hq3 := hide ((setRow_other w5 (w.heap.size + 1 + 1) q #[.int .u64 0, .slice none 0 0, .slice none 0 0] (by omega)).trans hq2)
   clear hq2 hBt hbn hw5 hb hRs hst
   go_wp2_with (first | (refine wpList_load_want rfl 76 _ rfl (w.heap.size + 1 + 1 + 1) rfl 76 #[.int .u64 0, .slice none 0 0, .slice none 0 0] (0, 0) _ r35 Tryz.underlying76 rfl infoV ?_) | (refine wpList_store_row rfl 76 _ _ rfl (w.heap.size + 1 + 1) #[.int .u64 0, .slice none 0 0, .slice none 0 0] rfl rfl 76 _ r25 infoV rfl hone ?_) | fail)
   refine bodyPost_ret (results_row_slot Tryz.results30 _ _ (w.heap.size + 1 + 1) _ _ _ _ _ rfl RF.out rfl Tryz.underlying76 rfl infoV) rfl ⟨?_, hwF.out⟩
   unfold Dcr
   rw [hR.out]
   exact ⟨q, rfl, by omega, hq3.out⟩
end Go.Proofs.YtlbndkfllegacaaGreatDoor
namespace Go.Proofs.YtlbndkfllegacaaGreatDoor
set_option maxRecDepth 100000
open Go Go.RowKit Go.Sort
attribute [local go_sem] setCell_drewN alloc_drewN
section
variable {P : Program}
theorem run_build_op {o : Oper} {a : Act} {w : World} (t : TypeId) (parts : Array (Nat × Operand)) (ho : o.op = .build t parts) (vals : List (Nat × Value)) (hv : parts.toList.map (fun (i, x) => (i, a.eval x)) = vals) (cells : Array Value) (hb : P.built t vals = some cells) : (execOp a.eval o).run P w = .ok (.value (.agg cells)) w := by
 rw [← Array.toList_map] at hv
 subst hv
 unfold execOp
 simp only [ho, Sem.run_bind, Sem.run_pure, run_build w t _ cells hb, Result.andThen_ok]
end
theorem dcF_cons {t : Slt} {ts : List Slt} {f : Fd} {fs : List Fd} {at_ : Int} (h : dcF (t :: ts) (f :: fs) at_ = none) : dsl t f at_ = none ∧ dcF ts fs (at_ + ((fby f).length : Int)) = none := by
 rw [dcF] at h
 cases hd : dsl t f at_ with
 | none => rw [hd] at h; exact ⟨rfl, h⟩
 | some x => rw [hd] at h; cases h
theorem dsl_none {t : Slt} {f : Fd} {at_ : Int} (h : dsl t f at_ = none) : f.no = t.no ∧ f.ty = wtK t ∧ ftF t f = 0 := by
 unfold dsl at h
 by_cases h1 : f.no = t.no
 · rw [if_neg (by simpa using h1)] at h
   by_cases h2 : f.ty = wtK t
   · rw [if_neg (by simpa using h2)] at h
     unfold rdE at h
     by_cases h3 : ftF t f = 0
     · exact ⟨h1, h2, h3⟩
     · rw [if_neg h3] at h; cases h
   · rw [if_pos h2] at h; cases h
 · rw [if_pos h1] at h; cases h
theorem wth_zero {n l m : Int} (h : wth n l m = 0) : l ≤ n ∧ n ≤ m := by
 unfold wth at h
 split at h
 · cases h
 · omega
theorem key_field {no : Int} {f : Fd} {at_ : Int} (h : dsl (.mk no 5 32 32 []) f at_ = none) (hf : fits f) : ∃ l : List B, f = ⟨no, 2, 0, l⟩ ∧ l.length = 32 := by
 obtain ⟨h1, h2, h3⟩ := dsl_none h
 obtain ⟨fno, fty, fnum, fdat⟩ := f
 have e1 : fno = no := h1
 have e2 : fty = 2 := h2
 subst e1 e2
 have e3 := wth_zero (show wth (fdat.length : Int) 32 32 = 0 from h3)
 have e4 : fnum = 0 := by
   unfold fits at hf
   simpa using hf
 subst e4
 exact ⟨fdat, rfl, by omega⟩
theorem own_range {W : World} {b : Nat} {v : Value} {d : List B} (h : Own W b v d) (hp : 0 < d.length) : ∃ g c, v = .slice (some ⟨g, 0, none⟩) d.length c ∧ d.length ≤ c ∧ b ≤ g ∧ g < W.heap.size ∧ W.rangeAt g 0 ((bl d).map (Value.int .u8)) := by
 have h' := h
 obtain ⟨_, ⟨rfl, h0⟩ | ⟨g, cap, cur, rfl, hb, hg, hn, hm, hs, ht⟩⟩ := h'
 · omega
 · refine ⟨g, cap, rfl, hn, hb, lt_of_row hg, fun j x hx => ?_⟩
   have := World.ownsRow.cells h (g := g) rfl j x hx
   rw [addr_add] at this
   exact this
theorem own_rangeR {W : World} {b : Nat} {e : TypeId} {sz : Nat} {v : Value} {n : Nat} {xs : List Value} (h : W.ownsRow b e sz v n xs) (hp : 0 < n) : ∃ g c, v = .slice (some ⟨g, 0, none⟩) n c ∧ b ≤ g ∧ g < W.heap.size ∧ W.rangeAt g 0 xs := by
 have h' := h
 obtain ⟨_, ⟨rfl, h0⟩ | ⟨g, cap, cur, rfl, hb, hg, hn, hm, hs, ht⟩⟩ := h'
 · omega
 · refine ⟨g, cap, rfl, hb, lt_of_row hg, fun j x hx => ?_⟩
   have := World.ownsRow.cells h (g := g) rfl j x hx
   rw [addr_add] at this
   exact this
theorem mv_range {W V : World} {b o : Nat} {cs : List Value} (h : W.rangeAt b o cs) (hb : V.heap[b]? = W.heap[b]?) : V.rangeAt b o cs := fun j v hv => (World.cell?_of_block hb).trans (h j v hv)
end Go.Proofs.YtlbndkfllegacaaGreatDoor

