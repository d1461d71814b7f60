import Derived.Test.YtbbdfbljhjijbaaDoorProg
import Derived.WalkKit
import Derived.WalkSpells
import Derived.WalkLawsBesides
import Derived.Lib.QuietBelow
import Derived.BigQuiet
import Derived.Test.YtbbdfbljhjijbaaDoorKa
import Derived.Test.YtbbdfbljhjijbaaDoorHlb
namespace Go.Proofs.YtbbdfbljhjijbaaDoor
open Go Go.RowKit Go.Sort
attribute [local go_sem] setCell_drewN alloc_drewN

theorem BysN.keep {W W' : World} {v : Value} {bs : List Int} (h : BysN W v bs) (hb : Below W.heap.size W W') : BysN W' v bs := ⟨h.1.keep hb, h.2⟩
theorem mix_set2 (a c m : List Int) (k : Nat) (h : a.length = c.length) (hk : k < c.length) : (mix a c k ++ m).set k (a.getD k 0) = mix a c (k + 1) ++ m := by
  rw [List.set_append_left _ _ (by rw [mix_length a c k h (by omega)]; exact hk), mix_set a c k h hk]
set_option maxRecDepth 100000 in
set_option maxHeartbeats 8000000 in
theorem sums_any (bs : List Int) (x : Int) (_hx : 0 ≤ x ∧ x < 256) (w : World) (v : Value) (hS : Sta w) (hK : Kon w) (hN : BysN w v bs) : Calls Tryd.prog 4 #[v, .int .u8 x] w fun e w' => e = .returned (.bool true) ∧ Below w.heap.size w w' := by
  have hz : ∀ z ∈ bs, 0 ≤ z ∧ z < 256 := by obtain ⟨⟨_, _, _, _, _, h⟩, _⟩ := hN; exact h
  have hlim : bs.length ≤ 140737488351232 := hN.2.1
  have cL := lent_walk bs w v hN.1 (by omega) hN.2.2
  have heq := eqSum bs
  have hk1 := hK.sz
  have hls := sumL_len bs
  go_enter Tryd.func4, Tryd.ntmps4
  go_wp2_with (fail)
  refine cL.mono ?_
  rintro e_ w1 ⟨vl, rfl, gc, rfl, hgc, rc, hw⟩
  clear cL
  have f0 := hS.below hw
  have f4 := hK.below hw
  have hN1 := hN.keep hw
  have lc := lt_of_row rc
  have hBc := Bys.of_prefix rc (by omega) hz (bs.length + 80)
  go_wp2_with (fail)
  refine (a_sum bs w1 _ f0 f4 hBc (fun a l c h => by cases h; omega) (by omega)).mono ?_
  rintro e_ w2 ⟨rfl, hb⟩
  replace f0 := f0.below hb
  replace f4 := f4.below hb
  replace hN1 := hN1.keep hb
  replace rc := keep hb rc
  have hs2 := hb.size
  replace hw := Below.after hw hb
  clear hb hBc
  go_wp2_with (fail)
  refine (r_sum bs w2 v hN1).mono ?_
  rintro e_ w3 ⟨rfl, hb⟩
  replace f0 := f0.below hb
  replace f4 := f4.below hb
  replace hN1 := hN1.keep hb
  replace rc := keep hb rc
  have hs3 := hb.size
  replace hw := Below.after hw hb
  clear hb
  have cKp := kept_walk bs gc w3 v hN1.1 (by omega) rc
  go_wp2_with (fail)
  refine cKp.mono ?_
  rintro e_ w4 ⟨rfl, hb⟩
  replace f0 := f0.below hb
  replace f4 := f4.below hb
  replace hN1 := hN1.keep hb
  replace rc := keep hb rc
  have hs4 := hb.size
  replace hw := Below.after hw hb
  clear hb cKp heq
  obtain ⟨hB, _, hnil⟩ := hN1
  obtain ⟨ao, cap, rfl, _, _, _⟩ := id hB
  have hnone := bys_none hB hnil
  have hba : Below w4.heap.size w4 (w4.alloc (.cells #[] 5)) := (Below.refl _ _).alloc (Nat.le_refl _) _
  have hcell := bys_cells (hB.keep hba)
  obtain ⟨i0, hi, hz0, hz1, hz2⟩ := info8
  have hoe := own_empty w4
  go_wp2_with (at_builtin; refine wpList_append_own_any _ rfl (.tmp 25) (.tmp 26) 27 rfl w4.heap.size 5 i0 (.int .u8 0) Tryd.underlying27 hi hz0 hz1 hz2 rfl _ 0 [] rfl hoe ao bs.length cap (bs.map (Value.int .u8)) rfl (by simp) hnone hcell (ints_one .u8 bs) (by unfold maxLen; omega) (by omega) hba.size ?_)
  intro vd w5 hown hgr
  try simp only [List.nil_append, Nat.zero_add] at hown
  replace hgr : (w4.alloc (.cells #[] 5)).grownBy w5 (some w4.heap.size) := hgr
  replace f0 := (f0.below hba).grown hgr (by omega)
  replace f4 := (f4.below hba).grown hgr (by omega)
  have lc4 := lt_of_row rc
  replace rc : w5.heap[gc]? = _ := (hgr.block gc (by rw [size_alloc1]; omega) (by intro e; injection e with e; omega)).trans (keep hba rc)
  replace hw := (Below.after hw hba).grown hgr (Nat.le_trans hw.size hba.size) (fun k h => by injection h with h; omega)
  clear hba hcell hgr hoe hnone hnil hB
  have hxl := xl_len bs x
  have hxb := xl_bd bs x
  generalize hbase : w4.heap.size = B at *
  rw [← mix_zero (xl bs x) bs] at hown
  rw [← mix_zero (xl bs x) bs] at rc
  obtain ⟨aod, capd, rfl⟩ := slen_own hown
  go_wp2
  go_loopw [8] (fun i wr => ∃ k : Nat, k ≤ bs.length ∧ i = .int .i64 k ∧ wr.heap[gc]? = some (.cells (irow .u8 (mix (xl bs x) bs k ++ marks 80)) 5 (0, 0)) ∧ wr.ownsRow B 5 1 (.slice aod bs.length capd) bs.length ((mix (xl bs x) bs k).map (Value.int .u8)) ∧ Sta wr ∧ Kon wr ∧ Below w.heap.size w wr) (fun i _ => bs.length - (intOf i).toNat)
  case atStart => exact ⟨0, by omega, rfl, rc, hown, f0, f4, hw⟩
  case round =>
    clear rc hown f0 f4 hw
    obtain ⟨k, hk, rfl, rc, hown, f0, f4, hw⟩ := hrel
    by_cases hlt : k < bs.length
    · have hd : decide ((k : Int) < (bs.length : Int)) = true := by simp; omega
      obtain ⟨gd, cd, e, hgd, hgl, c1, c2, c3⟩ := own_at hown hlt
      cases e
      have hml := mix_length (xl bs x) bs k hxl hk
      have hset := mix_set (xl bs x) bs k hxl hlt
      have hset2 := mix_set2 (xl bs x) bs (marks 80) k hxl hlt
      rw [mix_get _ _ _ hxl hlt] at c1
      have hxg := xl_get bs x k hlt
      rw [hxg] at hset hset2
      have c3' := c3 (bits .xor .u8 (bs.getD k 0) x)
      rw [hset] at c3'
      have rc2 : (wr.setCell ⟨gd, k, none⟩ (.int .u8 (bits .xor .u8 (bs.getD k 0) x))).heap[gc]? = _ := heap_other rc (by omega)
      have cc := irow_cell rc2 (j := k) (by rw [List.length_append]; omega)
      have cf := row_frozen rc2 k
      have f0' := f0.belowN (n := 1) (by omega) ((Below.refl 1 wr).setCell (show 1 ≤ (⟨gd, k, none⟩ : Addr).block from (by show 1 ≤ gd; omega)) (.int .u8 (bits .xor .u8 (bs.getD k 0) x)))
      have f4' := f4.belowN (n := 2) (by omega) ((Below.refl 2 wr).setCell (show 2 ≤ (⟨gd, k, none⟩ : Addr).block from (by show 2 ≤ gd; omega)) (.int .u8 (bits .xor .u8 (bs.getD k 0) x)))
      have hw' := hw.setCell (show w.heap.size ≤ (⟨gd, k, none⟩ : Addr).block from (by show w.heap.size ≤ gd; omega)) (.int .u8 (bits .xor .u8 (bs.getD k 0) x))
      have rc3 := irow_set rc2 k (bits .xor .u8 (bs.getD k 0) x)
      rw [hset2] at rc3
      have c4 := own_other (g := gc) (j := k) (u := .int .u8 (bits .xor .u8 (bs.getD k 0) x)) c3' (by omega)
      have f0'' := f0'.belowN (n := 1) (by omega) ((Below.refl 1 _).setCell (show 1 ≤ (⟨gc, k, none⟩ : Addr).block from (by show 1 ≤ gc; omega)) (.int .u8 (bits .xor .u8 (bs.getD k 0) x)))
      have f4'' := f4'.belowN (n := 2) (by omega) ((Below.refl 2 _).setCell (show 2 ≤ (⟨gc, k, none⟩ : Addr).block from (by show 2 ≤ gc; omega)) (.int .u8 (bits .xor .u8 (bs.getD k 0) x)))
      have hw'' := hw'.setCell (show w.heap.size ≤ (⟨gc, k, none⟩ : Addr).block from (by show w.heap.size ≤ gc; omega)) (.int .u8 (bits .xor .u8 (bs.getD k 0) x))
      clear hset hset2 hxg c3 f0 f4 hw f0' f4' hw' rc c3'
      generalize bs.getD k 0 = z at *
      go_wp2
      refine ⟨⟨k + 1, by omega, by go_num, rc3, c4, f0'', f4'', hw''⟩, ?_⟩
      simp [intOf]; omega
    · obtain rfl : k = bs.length := by omega
      have hd : decide ((bs.length : Int) < (bs.length : Int)) = false := by simp
      rw [mix_all _ _ hxl] at rc hown
      have heq2 := eqSum (xl bs x)
      have hBc := Bys.of_prefix rc (by omega) hxb (bs.length + 80)
      rw [hxl] at hBc
      have hBd := Bys.of_own hown (by omega) hxb
      have hNd : BysN wr (.slice aod bs.length capd) (xl bs x) := ⟨hBd, by omega, by
        intro a l c h ha
        injection h with e1 e2 e3
        obtain ⟨_, ⟨hv, _⟩ | ⟨g, cap, cur, hv, _⟩⟩ := hown
        · injection hv with _ _ h3
          rw [← e3, h3]
        · injection hv with h1
          rw [ha, h1] at e1
          cases e1⟩
      go_wp2_with (fail)
      refine (a_sum (xl bs x) wr _ f0 f4 hBc (fun a l c h => by cases h; omega) (by omega)).mono ?_
      rintro e_ w8 ⟨rfl, hb⟩
      replace hNd := hNd.keep hb
      replace hw := Below.after hw hb
      clear hb
      go_wp2_with (fail)
      refine (r_sum (xl bs x) w8 _ hNd).mono ?_
      rintro e_ w9 ⟨rfl, hb⟩
      replace hw := Below.after hw hb
      clear hb
      go_wp2
      go_ret
      exact ⟨rfl, hw⟩

end Go.Proofs.YtbbdfbljhjijbaaDoor

