import Derived.Test.YtleeadbceljfbaaGreatDoorCWh
import Derived.OwnWalk
import Derived.Deep.Cut
import Derived.Deep.RegionHeld3
namespace Go.Proofs.YtleeadbceljfbaaGreatDoor
set_option maxRecDepth 100000
open Go Go.RowKit Go.Sort
/-! What is cut short. -/
theorem rd_short (n : Nat) : ∀ i k, i ≤ 9 → n < 2 ^ (64 - 7 * i) → k < (en n).length → rd i ((en n).take k) = .er 73 := by
 induction n using Nat.strongRecOn with
 | ind n ih =>
   intro i k hi hn hk
   cases k with
   | zero => rw [List.take_zero, rd]
   | succ k =>
     by_cases h : n < 128
     · rw [en_lo h] at hk
       simp at hk
     · rw [en_hi h, List.length_cons] at hk
       rw [en_hi h, List.take_succ_cons, rd, b_of _ (by omega), if_pos (by omega)]
       have hi9 : i ≠ 9 := by
         intro e
         subst e
         simp at hn
         omega
       rw [if_neg hi9]
       have h7 : n / 128 < 2 ^ (64 - 7 * (i + 1)) := by
         have e1 : 64 - 7 * i = (64 - 7 * (i + 1)) + 7 := by omega
         rw [e1, Nat.pow_add] at hn
         exact Nat.div_lt_of_lt_mul (by rw [Nat.mul_comm]; exact hn)
       rw [ih (n / 128) (by omega) (i + 1) k (by omega) h7 (by omega)]
theorem rd0_cut {n k : Nat} (h : n < 18446744073709551616) (hk : k < (en n).length) : rd 0 ((en n).take k) = .er 73 := rd_short n 0 k (by decide) (by simpa using h) hk
theorem rh_cut {f : Fd} {last : Int} {c k : Nat} (h : fhd f < 18446744073709551616) (hk : k < (en (fhd f)).length) : rh ((en (fhd f)).take k) last c = .er 73 := by
 unfold rh
 rw [rd0_cut h hk]
theorem ri_cut {p : List B} {k : Nat} (h : p.length < 18446744073709551616) (hk : k < (itm p).length) : ri ((itm p).take k) = .er 73 := by
 unfold itm at hk ⊢
 rw [List.length_append] at hk
 unfold ri
 by_cases q : k < (en p.length).length
 · rw [List.take_append_of_le_length (by omega), rd0_cut h q]
 · have e : (en p.length ++ p).take k = en p.length ++ p.take (k - (en p.length).length) := by
     rw [List.take_append, List.take_of_length_le (by omega)]
   rw [e, rd0_en h]
   simp only
   rw [if_pos]
   simp only [List.length_append, List.length_take]
   omega
theorem rv_cut {f : Fd} {k : Nat} (hk : known f.ty) (ho : Fok f) (h : k < (fvl f).length) : rv ((fvl f).take k) f.ty = .er 73 := by
 obtain ⟨no, ty, num, dat⟩ := f
 obtain ⟨o1, o2, _⟩ := ho
 simp only at hk o1 o2 ⊢
 rcases hk with rfl | rfl | rfl | rfl
 · replace h : k < (en num).length := h
   show rv ((en num).take k) 0 = .er 73
   unfold rv
   rw [if_neg (by decide), if_neg (by decide), if_neg (by decide), rd0_cut o1 h]
 · replace h : k < (fx 8 num).length := h
   rw [fx_len] at h
   show rv ((fx 8 num).take k) 1 = .er 73
   unfold rv
   rw [if_pos rfl, if_pos (by rw [List.length_take, fx_len]; omega)]
 · replace h : k < (itm dat).length := h
   show rv ((itm dat).take k) 2 = .er 73
   unfold rv
   rw [if_neg (by decide), if_neg (by decide), if_pos rfl, ri_cut (by omega) h]
 · replace h : k < (fx 4 num).length := h
   rw [fx_len] at h
   show rv ((fx 4 num).take k) 5 = .er 73
   unfold rv
   rw [if_neg (by decide), if_pos rfl, if_pos (by rw [List.length_take, fx_len]; omega)]
theorem whl_app {d : List B} : ∀ (fs : List Fd) (pre r : List B) (last : Int) (c k : Nat), d = pre ++ (ebs fs ++ r) → ech fs last = 0 → c + fs.length ≤ 64 → 0 ≤ last → (∀ f ∈ fs, Fok f) → d.length - pre.length ≤ k →
   ∃ (xs : List (Nat × Fd)) (j : Nat) (la : Int), xs.map (·.2) = fs ∧ d.length - (pre ++ ebs fs).length ≤ j ∧ 0 ≤ la ∧ (∀ f gs, ech (fs ++ f :: gs) last = 0 → fck f la = 0) ∧ whl d k pre.length last c = (xs ++ (whl d j (pre ++ ebs fs).length la (c + fs.length)).1, (whl d j (pre ++ ebs fs).length la (c + fs.length)).2)
 | [], pre, r, last, c, k, hd, _, _, h0, _, hk => by
   refine ⟨[], k, last, rfl, by simpa [ebs] using hk, h0, fun f gs h => ?_, by simp [ebs]⟩
   rw [List.nil_append, ech] at h
   by_cases hf : fck f last = 0
   · exact hf
   · rw [if_pos hf] at h; exact h
 | f :: fs, pre, r, last, c, k, hd, he, hc, h0, hok, hk => by
   rw [List.length_cons] at hc
   rw [ech] at he
   by_cases hf : fck f last = 0
   · rw [if_neg (by rw [hf]; simp)] at he
     obtain ⟨f1, f2, f3, f4⟩ := fck_ok hf
     have hh : hck f last = 0 := by
       unfold fck at hf
       by_cases q : hck f last = 0
       · exact q
       · rw [if_pos q] at hf; exact hf
     have hp := en_pos (fhd f)
     have hd2 : d = (pre ++ fby f) ++ (ebs fs ++ r) := by rw [hd, ebs]; simp only [List.append_assoc]
     have hlt : pre.length < d.length := by
       rw [hd2, fby]
       simp only [List.length_append]
       omega
     have hr : rh (d.drop pre.length) last c = .ok f.no f.ty (en (fhd f)).length := by
       rw [hd, List.drop_left, ebs, fby]
       simp only [List.append_assoc]
       exact rh_of _ hh h0 (by omega)
     have hv : rv (d.drop (pre.length + (en (fhd f)).length)) f.ty = .ok f.num f.dat (fvl f).length := by
       rw [hd, ← List.drop_drop, List.drop_left, ebs, fby]
       simp only [List.append_assoc, List.drop_left]
       exact rv_of _ f3 f4 (hok f (List.mem_cons_self ..))
     obtain ⟨j, hj, hst⟩ := whl_step hlt hk hr hv
     have hpl : pre.length + (en (fhd f)).length + (fvl f).length = (pre ++ fby f).length := by rw [fby]; simp only [List.length_append]; omega
     rw [hpl] at hst hj
     obtain ⟨xs, j2, la, i1, i2, i3, i4, i5⟩ := whl_app fs (pre ++ fby f) r f.no (c + 1) j hd2 he (by omega) (by omega) (fun g hg => hok g (List.mem_cons_of_mem _ hg)) hj
     have e1 : pre ++ fby f ++ ebs fs = pre ++ ebs (f :: fs) := by rw [ebs, List.append_assoc]
     have e2 : c + 1 + fs.length = c + (f :: fs).length := by rw [List.length_cons]; omega
     rw [e1] at i2 i5
     rw [e2] at i5
     refine ⟨(pre.length, f) :: xs, j2, la, by rw [List.map_cons, i1], i2, i3, fun g gs h => ?_, ?_⟩
     · rw [List.cons_append, ech, if_neg (by rw [hf]; simp)] at h
       exact i4 g gs h
     · rw [hst, i5]
       rfl
   · rw [if_pos hf] at he
     exact absurd he hf
theorem whl_cut {fs gs : List Fd} {f : Fd} {k : Nat} (he : ech (fs ++ f :: gs) 0 = 0) (hl : fs.length < 64) (hok : ∀ g ∈ fs ++ f :: gs, Fok g) (h0 : 0 < k) (hk : k < (fby f).length) :
   (whl (ebs fs ++ (fby f).take k) (ebs fs ++ (fby f).take k).length 0 0 0).2 = some ((ebs fs).length + (if k < (en (fhd f)).length then 0 else (en (fhd f)).length), 73) := by
 have hpre : ∀ (a : List Fd) (last : Int) (b : List Fd), ech (a ++ b) last = 0 → ech a last = 0 := by
   intro a
   induction a with
   | nil => intro _ _ _; rfl
   | cons x a ih =>
     intro last b h
     rw [List.cons_append, ech] at h
     rw [ech]
     by_cases hx : fck x last = 0
     · rw [if_neg (by rw [hx]; simp)] at h ⊢
       exact ih _ _ h
     · rw [if_pos hx] at h; exact absurd h hx
 obtain ⟨xs, j, la, i1, i2, i3, i4, i5⟩ := whl_app (d := ebs fs ++ (fby f).take k) fs [] ((fby f).take k) 0 0 (ebs fs ++ (fby f).take k).length rfl (hpre fs 0 _ he) (by omega) (by omega) (fun g hg => hok g (List.mem_append_left _ hg)) (by omega)
 simp only [List.length_nil, List.nil_append, Nat.zero_add] at i2 i5
 rw [i5]
 simp only
 have hf := i4 f gs he
 obtain ⟨f1, f2, f3, f4⟩ := fck_ok hf
 have hh : hck f la = 0 := by
   unfold fck at hf
   by_cases q : hck f la = 0
   · exact q
   · rw [if_pos q] at hf; exact hf
 have ht := known_lt f3
 have hfh : fhd f < 18446744073709551616 := by unfold fhd; omega
 have hlen : (ebs fs ++ (fby f).take k).length = (ebs fs).length + k := by rw [List.length_append, List.length_take, Nat.min_eq_left (by omega)]
 have hlt : (ebs fs).length < (ebs fs ++ (fby f).take k).length := by omega
 by_cases q : k < (en (fhd f)).length
 · rw [if_pos q, Nat.add_zero]
   have hr : rh ((ebs fs ++ (fby f).take k).drop (ebs fs).length) la fs.length = .er 73 := by
     rw [List.drop_left, fby, List.take_append_of_le_length (by omega)]
     exact rh_cut hfh q
   rw [whl_head hlt i2 hr]
 · rw [if_neg q]
   have et : (fby f).take k = en (fhd f) ++ (fvl f).take (k - (en (fhd f)).length) := by
     rw [fby, List.take_append, List.take_of_length_le (by omega)]
   have hr : rh ((ebs fs ++ (fby f).take k).drop (ebs fs).length) la fs.length = .ok f.no f.ty (en (fhd f)).length := by
     rw [List.drop_left, et]
     exact rh_of _ hh i3 (by omega)
   have hv : rv ((ebs fs ++ (fby f).take k).drop ((ebs fs).length + (en (fhd f)).length)) f.ty = .er 73 := by
     rw [← List.drop_drop, List.drop_left, et, List.drop_left]
     refine rv_cut f3 (hok f (List.mem_append_right _ (List.mem_cons_self ..))) ?_
     unfold fby at hk
     rw [List.length_append] at hk
     omega
   rw [whl_value hlt i2 hr hv]
end Go.Proofs.YtleeadbceljfbaaGreatDoor
namespace Go.Proofs.YtleeadbceljfbaaGreatDoor
set_option maxRecDepth 100000
open Go Go.RowKit Go.Sort
/-! Parts of a list of fields. -/
theorem gf_take (fs : List Fd) (k i : Nat) (h : i < k) : gf (fs.take k) i = gf fs i := by
 rw [gf, gf, List.getD_eq_getElem?_getD, List.getD_eq_getElem?_getD, List.getElem?_take_of_lt h]
theorem Fds.take {W : World} {ao : Option Addr} {cap l : Nat} {fs : List Fd} (h : Fds W (.slice ao l cap) fs) (k : Nat) (hk : k ≤ fs.length) : Fds W (.slice ao k cap) (fs.take k) := by
 obtain ⟨ao', cap', e, h1, h2, h3, h4⟩ := h
 cases e
 have hl : (fs.take k).length = k := by rw [List.length_take, Nat.min_eq_left hk]
 refine ⟨ao, cap, by rw [hl], by omega, by omega, h3, fun i hi => ?_⟩
 rw [hl] at hi
 rw [gf_take fs k i hi]
 exact h4 i (by omega)
theorem ech_take : ∀ (fs : List Fd) (last : Int) (k : Nat), ech fs last = 0 → ech (fs.take k) last = 0
 | [], _, _, _ => by simp [ech]
 | f :: fs, last, 0, _ => by simp [ech]
 | f :: fs, last, k + 1, h => by
   rw [List.take_succ_cons]
   rw [ech] at h ⊢
   by_cases hf : fck f last = 0
   · rw [if_neg (by rw [hf]; simp)] at h ⊢
     exact ech_take fs _ k h
   · rw [if_pos hf] at h
     exact absurd h hf
theorem eer_ok {fs : List Fd} : eer fs = 0 ↔ fs.length ≤ 64 ∧ ech fs 0 = 0 ∧ (ebs fs).length ≤ 4194304 := by
 unfold eer
 by_cases h1 : 64 < fs.length
 · rw [if_pos h1]
   constructor
   · intro h; cases h
   · intro h; omega
 rw [if_neg h1]
 by_cases h2 : ech fs 0 = 0
 · rw [if_neg (by rw [h2]; simp)]
   by_cases h3 : 4194304 < (ebs fs).length
   · rw [if_pos h3]
     constructor
     · intro h; cases h
     · intro h; omega
   · rw [if_neg h3]
     exact ⟨fun _ => ⟨by omega, h2, by omega⟩, fun _ => rfl⟩
 · rw [if_pos h2]
   exact ⟨fun h => absurd h h2, fun h => absurd h.2.1 h2⟩
theorem eer_take {fs : List Fd} (k : Nat) (h : eer fs = 0) : eer (fs.take k) = 0 := by
 obtain ⟨h1, h2, h3⟩ := eer_ok.1 h
 exact eer_ok.2 ⟨by rw [List.length_take]; omega, ech_take fs 0 k h2, by have := ebs_mono fs k; omega⟩
theorem ebs_split (fs : List Fd) (c : Nat) : ebs fs = ebs (fs.take c) ++ ebs (fs.drop c) := by
 rw [← ebs_app, List.take_append_drop]
theorem cut_end {fs : List Fd} (c : Nat) : (ebs fs).take (ebs (fs.take c)).length = ebs (fs.take c) := by
 conv => lhs; rw [ebs_split fs c]
 rw [List.take_left]
theorem cut_in {fs : List Fd} {c n : Nat} (hc : c < fs.length) (h1 : (ebs (fs.take c)).length ≤ n) (h2 : n < (ebs (fs.take (c + 1))).length) : (ebs fs).take n = ebs (fs.take c) ++ (fby (gf fs c)).take (n - (ebs (fs.take c)).length) := by
 rw [ebs_snoc fs c hc, List.length_append] at h2
 rw [ebs_split fs c, fdrop_at fs c hc, ebs, List.take_append, List.take_of_length_le h1, List.take_append_of_le_length (by omega)]
theorem dec_cut {fs : List Fd} {c n : Nat} (he : eer fs = 0) (hok : ∀ f ∈ fs, Fok f) (hc : c < fs.length) (h1 : (ebs (fs.take c)).length < n) (h2 : n < (ebs (fs.take (c + 1))).length) :
   der (dwh ((ebs fs).take n)) = 73 ∧ dfs (dwh ((ebs fs).take n)) = [] ∧ dpl (dwh ((ebs fs).take n)) = (((ebs (fs.take c)).length + (if n - (ebs (fs.take c)).length < (en (fhd (gf fs c))).length then 0 else (en (fhd (gf fs c))).length) : Nat) : Int) := by
 obtain ⟨e1, e2, e3⟩ := eer_ok.1 he
 have h2' := h2
 rw [ebs_snoc fs c hc, List.length_append] at h2'
 have hm := ebs_mono fs (c + 1)
 have hfs : fs.take c ++ gf fs c :: fs.drop (c + 1) = fs := by rw [← fdrop_at fs c hc, List.take_append_drop]
 have hw := whl_cut (fs := fs.take c) (gs := fs.drop (c + 1)) (f := gf fs c) (k := n - (ebs (fs.take c)).length) (by rw [hfs]; exact e2) (by rw [List.length_take]; omega) (by rw [hfs]; exact hok) (by omega) (by omega)
 rw [← cut_in hc (by omega) h2] at hw
 have hd : dwh ((ebs fs).take n) = whl ((ebs fs).take n) ((ebs fs).take n).length 0 0 0 := if_neg (by rw [List.length_take]; omega)
 rw [hd]
 simp only [der, dfs, dpl, hw]
 exact ⟨trivial, trivial, trivial⟩
theorem dec_end {fs : List Fd} {c : Nat} (he : eer fs = 0) (hok : ∀ f ∈ fs, Fok f) : der (dwh ((ebs fs).take (ebs (fs.take c)).length)) = 0 ∧ dpl (dwh ((ebs fs).take (ebs (fs.take c)).length)) = 0 ∧ dfs (dwh ((ebs fs).take (ebs (fs.take c)).length)) = fs.take c := by
 rw [cut_end]
 exact enc_dec (eer_take c he) (fun f hf => hok f (List.mem_of_mem_take hf))
end Go.Proofs.YtleeadbceljfbaaGreatDoor
namespace Go.Proofs.YtleeadbceljfbaaGreatDoor
set_option maxRecDepth 100000
open Go Go.RowKit Go.Sort
attribute [local go_sem] setCell_drewN alloc_drewN
def vrk (fs : List Fd) (us : List Value) : Nat → List Value
 | 0 => []
 | k + 1 => vrk fs us k ++ [.int .u64 ((gf fs k).num : Int), gv us k, .slice none 0 0]
theorem vrk_len (fs : List Fd) (us : List Value) : ∀ k, (vrk fs us k).length = k * 3
 | 0 => rfl
 | k + 1 => by rw [vrk, List.length_append, vrk_len fs us k]; simp; omega
theorem vrk_at (fs : List Fd) (us : List Value) : ∀ k i j, i < k → j < 3 → (vrk fs us k)[i * 3 + j]? = [Value.int .u64 ((gf fs i).num : Int), gv us i, .slice none 0 0][j]?
 | 0, _, _, h, _ => by omega
 | k + 1, i, j, h, hj => by
   rw [vrk]
   rcases Nat.lt_or_ge i k with q | q
   · rw [List.getElem?_append_left (by rw [vrk_len]; omega)]
     exact vrk_at fs us k i j q hj
   · obtain rfl : i = k := by omega
     rw [List.getElem?_append_right (by rw [vrk_len]; omega), vrk_len, Nat.add_sub_cancel_left]
theorem infoVI : ∃ i, Tryz.prog.info? 80 = some i ∧ i.zero = some (.agg #[.int .u64 0, .slice none 0 0, .slice none 0 0]) ∧ i.size = 3 ∧ i.bytes = 56 := ⟨_, rfl, rfl, rfl, rfl⟩
theorem run_bv1 (x y z : Value) (W : World) : (Instr.buildSlice 78 1 #[(0, .agg #[x, y, z])]).run Tryz.prog W = .ok (.slice (some ⟨W.heap.size, 0, none⟩) 1 1) (W.alloc (.cells #[x, y, z] 80)) := by kernel_rfl
theorem op_bv1 {o : Oper} {a : Act} {w : World} (p : Operand) (ho : o.op = .buildSlice 78 1 #[(0, p)]) (x y z : Value) (hp : a.eval p = .agg #[x, y, z]) : (execOp a.eval o).run Tryz.prog w = .ok (.value (.slice (some ⟨w.heap.size, 0, none⟩) 1 1)) (w.alloc (.cells #[x, y, z] 80)) := by
 have hr := run_bv1 x y z w
 unfold execOp
 simp only [ho, Sem.run_bind, Sem.run_pure, List.map_toArray, List.map_cons, List.map_nil, hp, hr, Result.andThen_ok]
theorem ech_all : ∀ (fs : List Fd) (last : Int), 0 ≤ last → ech fs last = 0 → ∀ f ∈ fs, 0 ≤ f.no ∧ f.no ≤ 536870911 ∧ known f.ty ∧ fits f
 | [], _, _, _, f, hf => by simp at hf
 | g :: fs, last, h0, h, f, hf => by
   rw [ech] at h
   split at h
   · rename_i hne
     exact absurd h hne
   · rename_i hz
     have hz' : fck g last = 0 := by simpa using hz
     have hg : 0 ≤ g.no ∧ g.no ≤ 536870911 ∧ known g.ty ∧ fits g := by
       unfold fck at hz'
       split at hz'
       · rename_i h1; exact absurd hz' h1
       · rename_i h1
         have h1' : hck g last = 0 := by simpa using h1
         split at hz'
         · rename_i h2
           unfold hck at h1'
           split at h1'
           · omega
           · rename_i h3
             split at h1'
             · rename_i h4
               exact ⟨by omega, by omega, h4, h2⟩
             · omega
         · omega
     rcases List.mem_cons.1 hf with rfl | hf
     · exact hg
     · exact ech_all fs g.no hg.1 h f hf
theorem whl_pl {d : List B} : ∀ (k p : Nat) (last : Int) (c : Nat), p ≤ d.length → ∀ q e, (whl d k p last c).2 = some (q, e) → q ≤ d.length
 | 0, p, last, c, hp, q, e, h => by simp [whl] at h
 | k + 1, p, last, c, hp, q, e, h => by
   by_cases hlt : p < d.length
   · rw [whl, if_pos hlt] at h
     cases hr : rh (d.drop p) last c with
     | er e' =>
       rw [hr] at h
       simp at h
       omega
     | ok no ty n =>
       rw [hr] at h
       simp only at h
       have h1 := rh_ok hr
       rw [List.length_drop] at h1
       cases hv : rv (d.drop (p + n)) ty with
       | er e' =>
         rw [hv] at h
         simp at h
         omega
       | ok num dat m =>
         rw [hv] at h
         have h2 := rv_ok hv
         rw [List.length_drop] at h2
         exact whl_pl k (p + n + m) no (c + 1) (by omega) q e h
   · rw [whl, if_neg hlt] at h
     simp at h
theorem dpl_bd (d : List B) : 0 ≤ dpl (dwh d) ∧ dpl (dwh d) ≤ 4194304 := by
 unfold dpl dwh
 by_cases h : 4194304 < d.length
 · rw [if_pos h]
   exact ⟨by decide, by decide⟩
 · rw [if_neg h]
   have := whl_pl (d := d) d.length 0 0 0 (by omega)
   generalize (whl d d.length 0 0 0).2 = x at *
   cases x with
   | none => exact ⟨by decide, by decide⟩
   | some y =>
     obtain ⟨q, e⟩ := y
     have := this q e rfl
     simp only
     omega
theorem gf_mem {fs : List Fd} {i : Nat} (h : i < fs.length) : gf fs i ∈ fs := by
 rw [gf, List.getD_eq_getElem?_getD, List.getElem?_eq_getElem h]
 exact List.getElem_mem h
theorem ebs_take (fs : List Fd) (k : Nat) (h : k < fs.length) : (ebs (fs.take (k + 1))).length = (ebs (fs.take k)).length + (fby (gf fs k)).length := by
 rw [List.take_add_one, ebs_app, List.length_append, List.getElem?_eq_getElem h]
 simp [ebs_one, gf, List.getD_eq_getElem?_getD, List.getElem?_eq_getElem h]
theorem Fts.at {W : World} {b : Nat} {v : Value} {us : List Value} {fs : List Fd} (h : Fts W b v us fs) {i : Nat} (hi : i < fs.length) : ∃ g cap, v = .slice (some ⟨g, 0, none⟩) fs.length cap ∧ b ≤ g ∧ g < W.heap.size ∧ W.rangeAt g (i * 4) (frow (gf fs i) (gv us i)) := by
 obtain ⟨h1, h2, h3, _⟩ := h
 have h1' := h1
 obtain ⟨_, ⟨rfl, h0⟩ | ⟨g, cap, cur, rfl, hb, hg, hn, hm, hs, ht⟩⟩ := h1'
 · omega
 · refine ⟨g, cap, rfl, hb, lt_of_row hg, fun j x hx => ?_⟩
   have hj : j < 4 := by have := (List.getElem?_eq_some_iff.1 hx).1; exact this
   have := h1.cells (g := g) rfl (i * 4 + j) x (by rw [frs_at fs us i j h2 hi hj]; exact hx)
   rw [addr_add, Nat.zero_add] at this
   exact this
theorem own_move_row {W V : World} {b : Nat} {e : TypeId} {sz : Nat} {v : Value} {n : Nat} {xs : List Value} (h : W.ownsRow b e sz v n xs) (hm : ∀ g o, b ≤ g → W.heap[g]? = some o → V.heap[g]? = some o) : V.ownsRow b e sz v n xs := by
 obtain ⟨q1, q2 | ⟨g, cap, cur, q2, hb, q3, q4⟩⟩ := h
 · exact ⟨q1, .inl q2⟩
 · exact ⟨q1, .inr ⟨g, cap, cur, q2, hb, hm _ _ hb q3, q4⟩⟩
theorem own_down_row {W : World} {b c : Nat} {e : TypeId} {sz : Nat} {v : Value} {n : Nat} {xs : List Value} (h : W.ownsRow b e sz v n xs) (hc : c ≤ b) : W.ownsRow c e sz v n xs := by
 obtain ⟨q1, q2 | ⟨g, cap, cur, q2, hb, q3⟩⟩ := h
 · exact ⟨q1, .inl q2⟩
 · exact ⟨q1, .inr ⟨g, cap, cur, q2, by omega, q3⟩⟩
theorem own_cell_row {W : World} {b : Nat} {e : TypeId} {sz : Nat} {v : Value} {n : Nat} {xs : List Value} (h : W.ownsRow b e sz v n xs) : v.oneCell' = true := by
 obtain ⟨_, ⟨rfl, _⟩ | ⟨g, cap, cur, rfl, _⟩⟩ := h <;> rfl
theorem wp_call_upW {P : Program} {o : Oper} {a : Act} {w : World} {K : Act → World → Prop} {Q : Exit → Act → World → Prop} {f : FuncId} {args : Array Value} (base : Nat) (F : Option Flt3) (R : Value → World → Prop) (B : World → Prop) (hx : (execOp a.eval o).run P w = .ok (.enter f args) w)
   (c : Calls P f args w fun e w' => Gup base F e w' (fun v => R v w') ∧ B w') (h : F = none → ∀ v w', R v w' → B w' → K (a.put o.dst v) w')
   (hp : ∀ x, F = some x → ∀ g w', base ≤ g → w'.heap[g]? = some (.cells (frw x) 65 (0, 0)) → B w' → Q (.panic [{ v := .iface 83 (.pointer (some ⟨g, 0, none⟩)), recovered := false }]) a w') : o.wp P a w K Q := by
 unfold Oper.wp
 rw [hx, Oper.upon_enter]
 refine c.mono fun e w' ⟨hG, hB⟩ => ?_
 cases F with
 | none =>
   obtain ⟨v, rfl, hv⟩ := hG
   exact h rfl v w' hv hB
 | some x =>
   obtain ⟨g, rfl, h1, h2⟩ := hG
   exact hp x rfl g w' h1 h2 hB
set_option maxRecDepth 100000 in
set_option maxHeartbeats 16000000 in
theorem a_decodeF {W : World} {S : Nat → Prop} {v : Value} {ts : List Slt} (h : RdL W S v ts) (hfl : ∀ i, i < ts.length → Fla (gs ts i)) (d : List B) (bv : Value) (from_ : Int) (hfr : 0 ≤ from_ ∧ from_ ≤ 1099511627776) (w : World) (hw : Below W.heap.size W w) (hB : BysB w bv d) (hcap : ∀ a l c, bv = .slice a l c → l ≤ c) :
   Calls Tryz.prog 55 #[v, bv, .int .i64 from_] w fun e w' => Gup w.heap.size (dec8 ts d from_) e w' (fun u => ∃ pv fv us, u = .agg #[.int .u64 0, .slice none 0 0, pv] ∧ w'.ownsRow w.heap.size 80 3 pv (dfs (dwh d)).length (vrk (dfs (dwh d)) us (dfs (dwh d)).length) ∧ Fts w' w.heap.size fv us (dfs (dwh d))) ∧ Below w.heap.size w w' := by
 cases h with
 | mk ao cap ts rows us_ hl hc hnn h hs =>
   clear hs
   have rZ := hp1_0 w (.cells #[.int .u64 0, .slice none 0 0, .slice none 0 0] 80)
   have hb0 : Below w.heap.size w (w.alloc (.cells #[.int .u64 0, .slice none 0 0, .slice none 0 0] 80)) := (Below.refl _ _).alloc (Nat.le_refl _) _
   have cDe := hide (a_decode d (w.alloc (.cells #[.int .u64 0, .slice none 0 0, .slice none 0 0] 80)) bv (hB.keep hb0) hcap)
   obtain ⟨R, hR⟩ : ∃ R, dec8 ts d from_ = R := ⟨_, rfl⟩
   rw [hR]
   replace hb0 := hide hb0
   replace rZ := hide rZ
   clear hB hcap
   go_enter Tryz.func55, Tryz.ntmps55
   go_upto_region 1 with (fail)
   generalize w.alloc (.cells #[.int .u64 0, .slice none 0 0, .slice none 0 0] 80) = w0 at *
   go_wp2_with (fail)
   refine cDe.out.mono ?_
   rintro e_ y ⟨fv, us, rfl, hFt, hb1⟩
   have rZ1 := hide (keep hb1 rZ.out)
   have lz := lt_of_row rZ.out
   have lzy := hb1.size
   have hw0 := hide (Below.after hb0.out hb1)
   have hwy := hide (Below.after hw hw0.out)
   clear cDe rZ hb1 hb0
   by_cases hde : der (dwh d) = 0
   · have hfok := dfs_oks d
     have hf64 := dfs_len d hde
     have hee := eer_ok.1 (dec_enc hde).1
     have hkn : ∀ i, i < (dfs (dwh d)).length → _ := fun i hi => ech_all _ 0 (by decide) hee.2.1 _ (gf_mem hi)
     have hebs := hee.2.2
     have eR : R = dcF (ts.drop 0) ((dfs (dwh d)).drop 0) (from_ + ((ebs ((dfs (dwh d)).take 0)).length : Int)) := by rw [← hR, dec8, if_neg (by omega)]; simp [ebs]
     rw [hde]
     clear hR hee hde
     generalize hfs : dfs (dwh d) = fs at *
     replace hfs := hide hfs
     generalize dpl (dwh d) = pl at *
     obtain ⟨fo, fcap, rfl⟩ : ∃ fo fcap, fv = .slice fo fs.length fcap := by
       obtain ⟨_, ⟨rfl, h0⟩ | ⟨g, cap, cur, rfl, _⟩⟩ := hFt.1
       · exact ⟨none, 0, by rw [h0]⟩
       · exact ⟨_, _, rfl⟩
     replace hFt := hide hFt
     replace eR := hide eR
     go_wp2_with (fail)
     go_loopw [30, 10, 11, 12, 13] (fun i pv at_ _ _ wr => ∃ k : Nat, k ≤ ts.length ∧ k ≤ fs.length ∧ i = .int .i64 k ∧ at_ = .int .i64 (from_ + ((ebs (fs.take k)).length : Int)) ∧ R = dcF (ts.drop k) (fs.drop k) (from_ + ((ebs (fs.take k)).length : Int)) ∧ wr.ownsRow y.heap.size 80 3 pv k (vrk fs us k) ∧ Below y.heap.size y wr) (fun i _ _ _ _ _ => ts.length - (intOf i).toNat)
     case atStart => exact ⟨0, by omega, by omega, rfl, by simp [ebs], eR.out, ⟨rfl, .inl ⟨rfl, rfl⟩⟩, Below.refl _ _⟩
     case round =>
       clear eR
       obtain ⟨k, hk, hkl, rfl, rfl, eR, hOp, hby⟩ := hrel
       by_cases hlt : k < ts.length
       · generalize u10 = pv at *
         have hdk : decide ((k : Int) < (ts.length : Int)) = true := by simp; omega
         obtain ⟨b, rfl, hbl, _, hra, hSl⟩ := h k hlt
         obtain ⟨wt, k1, k2, k3, a1, a2, a3, hrow, hwt, hent, hcall⟩ := a_slotRead hSl (hfl k hlt)
         rw [hrow] at hra
         have szwr := hby.size
         have hWw : Below W.heap.size W wr := hwy.out.trans (hby.mono (by have := hwy.out.size; omega))
         have hrw := rangeS_keep2 hra hWw hbl
         have hpo : ∀ z, pv.ownBlock = some z → y.heap.size ≤ z ∧ z < wr.heap.size := own_high_row hOp
         have hba : Below wr.heap.size wr (wr.alloc (.cells #[.int .i64 0, .int .i64 0, .nilFunc, .nilFunc, .nilFunc] 135)) := (Below.refl _ _).alloc (Nat.le_refl _) _
         have rS := hp1_0 wr (.cells #[.int .i64 0, .int .i64 0, .nilFunc, .nilFunc, .nilFunc] 135)
         have hone : (rdv (gs ts k).no wt k1 k2 k3 a1 a2 a3).all (·.oneCell') = true := by simp [rdv, Value.oneCell']
         have hbb := below_setRow (g := wr.heap.size) hba (Nat.le_refl _) (rdv (gs ts k).no wt k1 k2 k3 a1 a2 a3)
         have rS2 := setRow_heap _ wr.heap.size _ (rdv (gs ts k).no wt k1 k2 k3 a1 a2 a3) _ _ rS
         replace hOp := own_keep_row hOp hbb
         have hfy := hby
         replace hby := Below.after hby hbb
         clear hba hbb hra hrow
         replace hwt := hide hwt
         by_cases hkf : k = fs.length
         · rw [dcF_short hlt hkf.symm] at eR
           subst hkf
           rw [List.take_length] at eR
           replace eR := hide eR
           unfold rdv at *
           generalize (gs ts fs.length).no = no at *
           replace hby := hide hby
           clear hcall hSl hOp rS2 hfy hpo hWw
           rw [List.take_length]
           generalize from_ + ((ebs fs).length : Int) = at_ at *
           go_upto_region 9 with (first | (refine wpList_load_mid rfl 135 _ rfl b (fs.length * 5) rfl _ _ hrw Tryz.underlying135 rfl infoSt' ?_) | (refine wpList_store_row rfl 135 _ _ rfl wr.heap.size #[.int .i64 no, .int .i64 wt, .func (.func k1) #[] a1, .func (.func k2) #[] a2, .func (.func k3) #[] a3] rfl rfl 135 _ rS infoSt' rfl hone ?_) | fail)
           try unfold WpStay
           generalize (wr.alloc (.cells #[.int .i64 0, .int .i64 0, .nilFunc, .nilFunc, .nilFunc] 135)).setRow wr.heap.size #[.int .i64 no, .int .i64 wt, .func (.func k1) #[] a1, .func (.func k2) #[] a2, .func (.func k3) #[] a3] = x0 at *
           go_wp2_with (fail)
           refine (a_giveUp 0 at_ 81 _).mono ?_
           rintro e_ x2 ⟨⟨g, rfl, hgl, hgr⟩, hb2⟩
           have szx := hby.out.size
           have szy := hw0.out.size
           have hz := Below.after hby.out hb2
           go_wp2
           rw [eR.out]
           exact ⟨rfl, ⟨g, rfl, by omega, hgr⟩, hw0.out.trans (hz.mono (by omega))⟩
         · have hkf2 : k < fs.length := by omega
           have hdf : ((k : Int) == (fs.length : Int)) = false := by simp; omega
           have hdf2 : ¬ (k : Int) = (fs.length : Int) := by omega
           rw [dcF_step hlt hkf2] at eR
           obtain ⟨fb, fcap2, efv, hfb1, hfb2, hfrow⟩ := (hFt.out).at hkf2
           cases efv
           replace hfrow := rangeS_keep2 hfrow hby hfb2
           obtain ⟨hk0, hk1, hk2, _⟩ := hkn k hkf2
           have hfo := hfok k hkf2
           obtain ⟨fda, fdc, hus⟩ := slen_own (hFt.out.2.2.1 k (by rw [hFt.out.2.1]; exact hkf2))
           have hat0 : 0 ≤ from_ + ((ebs (fs.take k)).length : Int) ∧ from_ + ((ebs (fs.take k)).length : Int) ≤ 4611686018427387904 := by
             have e := ebs_split fs k
             have e2 : (ebs fs).length = (ebs (fs.take k)).length + (ebs (fs.drop k)).length := by rw [e, List.length_append]
             omega
           have hat1 : Hid (from_ + ((ebs (fs.take k)).length : Int) + ((fby (gf fs k)).length : Int) = from_ + ((ebs (fs.take (k + 1))).length : Int)) := hide (by rw [ebs_take fs k hkf2]; omega)
           have hvk : Hid (vrk fs us (k + 1) = vrk fs us k ++ [.int .u64 ((gf fs k).num : Int), gv us k, .slice none 0 0]) := hide rfl
           have cE := hide (fun V => a_endOf (gf fs k) fda fdc (from_ + ((ebs (fs.take k)).length : Int)) hat0 hfo hk0 hk1 hk2 V)
           have cD := hide (fun V (hV : Below y.heap.size y V) => a_slotDecode (gs ts k).no wt k1 k2 k3 a1 a2 a3 (gf fs k).no (gf fs k).ty (gf fs k).num fda (gf fs k).dat.length fdc (from_ + ((ebs (fs.take k)).length : Int)) (rdE (from_ + ((ebs (fs.take k)).length : Int)) (ftF (gs ts k) (gf fs k))) V hent (fun V' hV' => hcall (gf fs k) fda (gf fs k).dat.length fdc _ V' rfl (by have := hfo.2.1; omega) (hwy.out.trans ((Below.after hV hV').mono (by have := hwy.out.size; omega)))))
           obtain ⟨F, hF⟩ : ∃ F, dsl (gs ts k) (gf fs k) (from_ + ((ebs (fs.take k)).length : Int)) = F := ⟨_, rfl⟩
           rw [hF] at eR
           rw [show (if (gf fs k).no ≠ (gs ts k).no then some ⟨0, from_ + ((ebs (fs.take k)).length : Int), 81⟩ else if (gf fs k).ty ≠ wt then some ⟨0, from_ + ((ebs (fs.take k)).length : Int), 82⟩ else rdE (from_ + ((ebs (fs.take k)).length : Int)) (ftF (gs ts k) (gf fs k))) = F by rw [← hF, dsl, ← hwt.out]] at cD
           replace eR := hide eR
           have hfl3 : (gf fs k).dat.length < 9223372036854775808 := by have := hfo.2.1; omega
           unfold rdv vrw frow at *
           rw [hus] at hfrow hvk
           rw [hat1.out] at eR
           clear hcall hSl hF hus hfo hk0 hk1 hk2 hat0 hwt
           generalize from_ + ((ebs (fs.take k)).length : Int) = at_ at *
           generalize ((fby (gf fs k)).length : Int) = FL at *
           generalize (gf fs k).no = fno at *
           generalize (gf fs k).ty = fty at *
           generalize (gf fs k).num = fnum at *
           generalize (gf fs k).dat.length = fdl at *
           generalize (gs ts k).no = no at *
           replace hby := hide hby
           replace hOp := hide hOp
           replace rS2 := hide rS2
           replace hfrow := hide hfrow
           go_upto_region 9 with (first | (refine wpList_load_mid rfl 135 _ rfl b (k * 5) rfl _ _ hrw Tryz.underlying135 rfl infoSt' ?_) | (refine wpList_store_row rfl 135 _ _ rfl wr.heap.size #[.int .i64 no, .int .i64 wt, .func (.func k1) #[] a1, .func (.func k2) #[] a2, .func (.func k3) #[] a3] rfl rfl 135 _ rS infoSt' rfl hone ?_) | fail)
           try unfold WpStay
           generalize (wr.alloc (.cells #[.int .i64 0, .int .i64 0, .nilFunc, .nilFunc, .nilFunc] 135)).setRow wr.heap.size #[.int .i64 no, .int .i64 wt, .func (.func k1) #[] a1, .func (.func k2) #[] a2, .func (.func k3) #[] a3] = x0 at *
           go_upto_region 11 with (fail)
           have hbd : Below x0.heap.size x0 x0.drew := below_drN (Below.refl _ _) 1
           have HS : (fun W : World => W.heap[wr.heap.size]? = some (.cells #[.int .i64 no, .int .i64 wt, .func (.func k1) #[] a1, .func (.func k2) #[] a2, .func (.func k3) #[] a3] 135 (0, 0)) ∧ W.rangeAt fb (k * 4) [.int .i64 fno, .int .i64 fty, .int .u64 (fnum : Int), .slice fda fdl fdc]) x0.drew := ⟨rS2.out, hfrow.out⟩
           replace hOp := own_keep_row hOp.out hbd
           replace hby := Below.after hby.out hbd
           have hi9 : 0 ≤ (k : Int) ∧ (k : Int) < (fs.length : Int) := by omega
           clear hbd rS2 hfrow rS hfy hWw hrw hent hone hdk hdf hdf2 hkn hfok h
           generalize wr.heap.size = gS at *
           refine wp_region_held (S := fun W : World => W.heap[gS]? = some (.cells #[.int .i64 no, .int .i64 wt, .func (.func k1) #[] a1, .func (.func k2) #[] a2, .func (.func k3) #[] a3] 135 (0, 0)) ∧ W.rangeAt fb (k * 4) [.int .i64 fno, .int .i64 fty, .int .u64 (fnum : Int), .slice fda fdl fdc]) (by kernel_rfl) ?_
           change wpAnyH _ _ _ _ _ _ _ _ (World.drew _)
           generalize x0.drew = x1 at *
           refine wpAnyH_take (i := 0) (v := ?v1) rfl (by kernel_rfl) (by kernel_rfl) (by kernel_rfl) (fun _ _ _ h => h) (Or.inl ⟨by rfl, ?y1⟩) HS ?r1
           case y1 =>
             intro w_ hS_
             go_simp
             try with_reducible rfl
           simp only [Act.put, List.getElem_toArray, List.getElem_cons_zero, List.setIfInBounds_toArray, List.set_cons_succ, List.set_cons_zero]
           refine wpAnyH_take (i := 1) (v := .agg #[.int .i64 no, .int .i64 wt, .func (.func k1) #[] a1, .func (.func k2) #[] a2, .func (.func k3) #[] a3]) rfl (by kernel_rfl) (by kernel_rfl) (by kernel_rfl) (fun _ _ _ h => h) (yieldsIf_load_mid (by rfl) 135 _ rfl gS 0 rfl [.int .i64 no, .int .i64 wt, .func (.func k1) #[] a1, .func (.func k2) #[] a2, .func (.func k3) #[] a3] _ (fun _ h => range_row ⟨_, h.1⟩) Tryz.underlying135 rfl infoSt') HS ?_
           simp only [Act.put, List.getElem_toArray, List.getElem_cons_succ, List.getElem_cons_zero, List.setIfInBounds_toArray, List.set_cons_succ, List.set_cons_zero]
           refine wpAnyH_take (i := 2) (v := ?v3) rfl (by kernel_rfl) (by kernel_rfl) (by kernel_rfl) (fun _ _ _ h => h) (Or.inl ⟨by rfl, ?y3⟩) HS ?r3
           case y3 =>
             intro w_ hS_
             go_simp
             try with_reducible rfl
           simp only [Act.put, List.getElem_toArray, List.getElem_cons_succ, List.getElem_cons_zero, List.setIfInBounds_toArray, List.set_cons_succ, List.set_cons_zero]
           refine wpAnyH_take (i := 3) (v := ?v4) rfl (by kernel_rfl) (by kernel_rfl) (by kernel_rfl) (fun _ _ _ h => h) (Or.inl ⟨by rfl, ?y4⟩) HS ?r4
           case y4 =>
             intro w_ hS_
             go_simp
             try with_reducible rfl
           simp only [Act.put, List.getElem_toArray, List.getElem_cons_succ, List.getElem_cons_zero, List.setIfInBounds_toArray, List.set_cons_succ, List.set_cons_zero]
           refine wpAnyH_take (i := 4) (v := ?v5) rfl (by kernel_rfl) (by kernel_rfl) (by kernel_rfl) (fun _ _ _ h => h) (Or.inl ⟨by rfl, ?y5⟩) HS ?r5
           case y5 =>
             intro w_ hS_
             go_simp
             try with_reducible rfl
           simp only [Act.put, List.getElem_toArray, List.getElem_cons_succ, List.getElem_cons_zero, List.setIfInBounds_toArray, List.set_cons_succ, List.set_cons_zero]
           refine wpAnyH_take (i := 5) (v := .agg #[.int .i64 fno, .int .i64 fty, .int .u64 (fnum : Int), .slice fda fdl fdc]) rfl (by kernel_rfl) (by kernel_rfl) (by kernel_rfl) (fun _ _ _ h => h) (yieldsIf_load_mid (by rfl) 60 _ rfl fb (k * 4) rfl [.int .i64 fno, .int .i64 fty, .int .u64 (fnum : Int), .slice fda fdl fdc] _ (fun _ h => h.2) Tryz.underlying60 rfl infoFi) HS ?_
           simp only [Act.put, List.getElem_toArray, List.getElem_cons_succ, List.getElem_cons_zero, List.setIfInBounds_toArray, List.set_cons_succ, List.set_cons_zero]
           refine wpAnyH_take (i := 6) (v := ?v7) rfl (by kernel_rfl) (by kernel_rfl) (by kernel_rfl) (fun _ _ _ h => h) (Or.inl ⟨by rfl, ?y7⟩) HS ?r7
           case y7 =>
             intro w_ hS_
             go_simp
             try with_reducible rfl
           simp only [Act.put, List.getElem_toArray, List.getElem_cons_succ, List.getElem_cons_zero, List.setIfInBounds_toArray, List.set_cons_succ, List.set_cons_zero]
           refine wpAnyH_one (k := 7) (fuel := 3) (by kernel_rfl) rfl (by kernel_rfl) (fun K_ hK => ?_)
           refine wp_call_up (base := x1.heap.size) (F := F) (R := fun v => v = .agg #[.int .u64 (fnum : Int), .slice fda fdl fdc, .slice none 0 0]) (B := fun w' => Below x1.heap.size x1 w') (by kernel_rfl) (cD.out x1 hby) ?_ ?_
           · intro hF v_ x2 hv hb_
             subst hv
             rw [hF] at eR
             have lgs := lt_of_row HS.1
             have szy1 := hby.size
             replace hOp := own_keep_row hOp hb_
             have szb_x2 := hb_.size
             have HS' : (fun W : World => W.heap[gS]? = some (.cells #[.int .i64 no, .int .i64 wt, .func (.func k1) #[] a1, .func (.func k2) #[] a2, .func (.func k3) #[] a3] 135 (0, 0)) ∧ W.rangeAt fb (k * 4) [.int .i64 fno, .int .i64 fty, .int .u64 (fnum : Int), .slice fda fdl fdc]) _ := ⟨keep hb_ HS.1, rangeS_keep2 HS.2 hb_ (by omega)⟩
             replace HS := HS'
             clear HS'
             replace hby := Below.after hby hb_
             clear hb_
             refine hK _ _ HS ?_
             simp only [Act.put, List.getElem_toArray, List.getElem_cons_succ, List.getElem_cons_zero, List.setIfInBounds_toArray, List.set_cons_succ, List.set_cons_zero]
             clear hK
             refine wpAnyH_one (k := 8) (fuel := 2) (by kernel_rfl) rfl (by kernel_rfl) (fun K_ hK => ?_)
             refine wp_world_op (.slice (some ⟨x2.heap.size, 0, none⟩) 1 1) (x2.alloc (.cells #[.int .u64 (fnum : Int), .slice fda fdl fdc, .slice none 0 0] 80)) (op_bv1 _ rfl _ _ _ rfl) ?_
             have NV := new_cells4 x2 #[.int .u64 (fnum : Int), .slice fda fdl fdc, .slice none 0 0] 80
             have hb_ : Below x2.heap.size x2 (x2.alloc (.cells #[.int .u64 (fnum : Int), .slice fda fdl fdc, .slice none 0 0] 80)) := (Below.refl _ _).alloc (Nat.le_refl _) _
             replace hOp := own_keep_row hOp hb_
             have szb_x3 := hb_.size
             have HS' : (fun W : World => W.heap[gS]? = some (.cells #[.int .i64 no, .int .i64 wt, .func (.func k1) #[] a1, .func (.func k2) #[] a2, .func (.func k3) #[] a3] 135 (0, 0)) ∧ W.rangeAt fb (k * 4) [.int .i64 fno, .int .i64 fty, .int .u64 (fnum : Int), .slice fda fdl fdc]) _ := ⟨keep hb_ HS.1, rangeS_keep2 HS.2 hb_ (by omega)⟩
             replace HS := HS'
             clear HS'
             replace hby := Below.after hby hb_
             clear hb_
             refine hK _ _ HS ?_
             simp only [Act.put, List.getElem_toArray, List.getElem_cons_succ, List.getElem_cons_zero, List.setIfInBounds_toArray, List.set_cons_succ, List.set_cons_zero]
             clear hK
             generalize x2.alloc (.cells #[.int .u64 (fnum : Int), .slice fda fdl fdc, .slice none 0 0] 80) = x3 at *
             generalize x2.heap.size = gV at *
             refine wpAnyH_one (k := 9) (fuel := 1) (by kernel_rfl) rfl (by kernel_rfl) (fun K_ hK => ?_)
             obtain ⟨iV, hiV, hiz, his, hib⟩ := infoVI
             refine wp_append_nx _ _ 78 rfl y.heap.size 80 iV (.agg #[.int .u64 0, .slice none 0 0, .slice none 0 0]) 3 56 Tryz.underlying78 hiV hiz his hib rfl (by decide) pv k (vrk fs us k) rfl hOp ⟨gV, 0, none⟩ 1 1 [.int .u64 (fnum : Int), .slice fda fdl fdc, .slice none 0 0] rfl rfl NV (fun x hx => ?_) (by unfold maxLen; omega) (by omega) hby.size (fun pv' x4 hO4 hgr _ => ?_)
             · simp at hx
               rcases hx with rfl | rfl | rfl <;> rfl
             have HS4 : (fun W : World => W.heap[gS]? = some (.cells #[.int .i64 no, .int .i64 wt, .func (.func k1) #[] a1, .func (.func k2) #[] a2, .func (.func k3) #[] a3] 135 (0, 0)) ∧ W.rangeAt fb (k * 4) [.int .i64 fno, .int .i64 fty, .int .u64 (fnum : Int), .slice fda fdl fdc]) x4 := ⟨(hgr.block gS (lt_of_row HS.1) (fun e => by have := (hpo gS e.symm).2; omega)).trans HS.1, fun j v hv => (World.cell?_of_block (hgr.block fb (by omega) (fun e => by have := (hpo fb e.symm).1; omega))).trans (HS.2 j v hv)⟩
             have szy := hby.size
             replace hby := hby.grown hgr szy (fun z e => (hpo z e).1)
             refine hK _ _ HS4 ?_
             simp only [Act.put, List.getElem_toArray, List.getElem_cons_succ, List.getElem_cons_zero, List.setIfInBounds_toArray, List.set_cons_succ, List.set_cons_zero]
             clear hK HS hOp
             refine wpAnyH_take (i := 10) (v := ?v99) rfl (by kernel_rfl) (by kernel_rfl) (by kernel_rfl) (fun _ _ _ h => h) (Or.inl ⟨by rfl, ?y99⟩) HS4 ?r99
             case y99 =>
               intro w_ hS_
               go_simp
               try with_reducible rfl
             simp only [Act.put, List.getElem_toArray, List.getElem_cons_succ, List.getElem_cons_zero, List.setIfInBounds_toArray, List.set_cons_succ, List.set_cons_zero]
             refine wpAnyH_done (by kernel_rfl) ?_ _
             have hF4 := HS4.2
             clear HS4 NV
             replace hO4 := hide hO4
             replace hby := hide hby
             go_wp2_with (first | (refine wpList_load_mid rfl 60 _ rfl fb (k * 4) rfl _ _ hF4 Tryz.underlying60 rfl infoFi ?_) | fail)
             refine (cE.out x4).mono ?_
             rintro e_ x5 ⟨_, rfl, rfl, hb_⟩
             replace hO4 := hide (own_keep_row hO4.out hb_)
             replace hby := hide (Below.after hby.out hb_)
             clear hb_ cE hF4
             go_wp2_with (fail)
             refine ⟨⟨k + 1, by omega, by omega, by go_num, by rw [hat1.out], eR.out, by rw [hvk.out]; exact hO4.out, hby.out⟩, ?_⟩
             simp [intOf]; omega
           · intro x hF g x2 h1_ h2_ hb_
             rw [hF] at eR
             have szx := hby.size
             have szy := hw0.out.size
             replace hby := Below.after hby hb_
             go_wp2_with (fail)
             rw [eR.out]
             exact ⟨rfl, ⟨g, rfl, by omega, h2_⟩, hw0.out.trans (hby.mono (by omega))⟩
       · obtain rfl : k = ts.length := by omega
         generalize u10 = pv at *
         have hdk : decide ((ts.length : Int) < (ts.length : Int)) = false := by simp
         have szy := hby.size
         clear h hfl hkn hfok hnn
         by_cases hlf : ts.length < fs.length
         · rw [dcF_long rfl hlf] at eR
           have hdl : decide ((ts.length : Int) < (fs.length : Int)) = true := by simp; omega
           replace eR := hide eR
           replace hby := hide hby
           clear hOp
           generalize from_ + ((ebs (fs.take ts.length)).length : Int) = at_ at *
           go_wp2_with (fail)
           refine (a_giveUp 0 at_ 81 _).mono ?_
           rintro e_ x2 ⟨⟨g, rfl, hgl, hgr⟩, hb2⟩
           have szx := hby.out.size
           have szy := hw0.out.size
           have hz := Below.after hby.out hb2
           go_wp2
           rw [eR.out]
           exact ⟨rfl, ⟨g, rfl, by omega, hgr⟩, hw0.out.trans (hz.mono (by omega))⟩
         · have hle : fs.length = ts.length := by omega
           rw [dcF_end rfl hle] at eR
           have hdl : decide ((ts.length : Int) < (fs.length : Int)) = false := by simp; omega
           rw [← hle] at hOp
           obtain ⟨po, pn, pc, rfl⟩ : ∃ po pn pc, pv = .slice po pn pc := by
             obtain ⟨_, ⟨rfl, _⟩ | ⟨g, cap, cur, rfl, _⟩⟩ := hOp
             · exact ⟨_, _, _, rfl⟩
             · exact ⟨_, _, _, rfl⟩
           have rZ3 := (hby.block w.heap.size (by omega)).trans rZ1.out
           have hone : (#[Value.int .u64 0, .slice none 0 0, .slice po pn pc] : Array Value).all (·.oneCell') = true := by simp [Value.oneCell']
           have hmv : ∀ g o, w.heap.size < g → wr.heap[g]? = some o → (wr.setRow w.heap.size #[.int .u64 0, .slice none 0 0, .slice po pn pc]).heap[g]? = some o := fun g o hg ho => (setRow_other wr w.heap.size g #[.int .u64 0, .slice none 0 0, .slice po pn pc] (by omega)).trans ho
           have RF := hide (setRow_heap wr w.heap.size _ #[.int .u64 0, .slice none 0 0, .slice po pn pc] _ _ rZ3)
           have hwF := hide (below_setRow (g := w.heap.size) (hw0.out.trans (hby.mono (by omega))) (Nat.le_refl _) #[.int .u64 0, .slice none 0 0, .slice po pn pc])
           have hOF := hide (own_down_row (own_move_row hOp (fun g o hg ho => hmv g o (by omega) ho)) (show w.heap.size ≤ y.heap.size by omega))
           have hFF := hide (Fts.down (Fts.move (hFt.out.keep hby) (fun g o hg ho => hmv g o (by omega) ho)) (show w.heap.size ≤ w0.heap.size by omega))
           replace eR := hide eR
           clear hOp hby hmv hFt hw0 hwy rZ1
           replace hle := hide hle
           go_wp2_with (first | (refine wpList_store_row rfl 80 _ _ rfl w.heap.size #[.int .u64 0, .slice none 0 0, .slice po pn pc] rfl rfl 80 _ rZ3 infoV rfl hone ?_) | fail)
           refine bodyPost_ret (v := .agg #[.int .u64 0, .slice none 0 0, .slice po pn pc]) (results_cell_row Tryz.results55 _ _ w.heap.size _ _ _ _ rfl RF.out Tryz.underlying80 rfl infoV) rfl ⟨?_, hwF.out⟩
           rw [eR.out]
           exact ⟨_, rfl, _, _, us, rfl, by rw [hfs.out]; exact hOF.out, by rw [hfs.out]; exact hFF.out⟩
   · have eR : R = some ⟨0, from_ + dpl (dwh d), der (dwh d)⟩ := by rw [← hR, dec8, if_pos hde]
     have hd1 : (der (dwh d) == 0) = false := by simpa using hde
     replace eR := hide eR
     replace hde := hide hde
     have hpl := dpl_bd d
     clear hR h hfl hnn hFt
     generalize der (dwh d) = E at *
     generalize dpl (dwh d) = pl at *
     have hb9 := hw0.out
     go_wp2_with (fail)
     refine (a_giveUp 0 (from_ + pl) E _).mono ?_
     rintro e_ x2 ⟨⟨g, rfl, hgl, hgr⟩, hb2⟩
     have szx := (Below.refl y.heap.size y).size
     have szy := hw0.out.size
     have hz := Below.after (Below.refl y.heap.size y) hb2
     go_wp2
     rw [eR.out]
     exact ⟨rfl, ⟨g, rfl, by omega, hgr⟩, hw0.out.trans (hz.mono (by omega))⟩
end Go.Proofs.YtleeadbceljfbaaGreatDoor
