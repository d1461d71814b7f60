import Derived.Test.YtohjcdmhejmnfaaProg
import Derived.WalkKit
import Derived.WalkSpells
import Derived.WalkLawsBesides
import Derived.Lib.QuietBelow
import Derived.Laws.BitsAllLaws
import Derived.BigQuiet
import Derived.WalkMore
import Derived.Test.YtohjcdmhejmnfaaKit
import Derived.Test.YtohjcdmhejmnfaaWv
import Derived.Test.YtohjcdmhejmnfaaWw
namespace Go.Proofs.Ytohjcdmhejmnfaa
open Go Go.RowKit Go.Sort
attribute [local go_sem] setCell_drewN alloc_drewN

theorem setRow_sz (w : World) (g : Nat) (cs : Array Value) : (w.setRow g cs).heap.size = w.heap.size := by
  show (w.heap.modify _ _).size = _
  rw [Array.size_modify]
set_option maxRecDepth 100000 in
set_option maxHeartbeats 8000000 in
theorem l_copied (fs : List Fd) (w : World) (v : Value) (hB : Fds w v fs) : Calls Try.prog 9 #[v] w fun e w' => ∃ u us, e = .returned u ∧ Fts w' w.heap.size u us fs ∧ Below w.heap.size w w' := by
  have hlen := hB.len
  obtain ⟨ao, cap, rfl⟩ := hB.form
  have hI0 := fts_empty w
  have hw0 : Below w.heap.size w (w.alloc (.cells #[] 38)) := (Below.refl _ _).alloc (Nat.le_refl _) _
  go_enter Try.func9, Try.ntmps9
  go_wp2_with (fail)
  generalize w.alloc (.cells #[] 38) = w00 at *
  go_loopw [3, 4] (fun s i wr => ∃ (k : Nat) (us : List Value) (so : Option Addr) (sc : Nat), k ≤ fs.length ∧ i = .int .i64 k ∧ s = .slice so k sc ∧ Fts wr w.heap.size (.slice so k sc) us (fs.take k) ∧ Below w.heap.size w wr) (fun _ i _ => fs.length - (intOf i).toNat)
  case atStart => exact ⟨0, [], _, _, by omega, rfl, rfl, hI0, hw0⟩
  case round =>
    clear hI0 hw0
    obtain ⟨k, us, so, sc, hk, rfl, rfl, hI, hw⟩ := hrel
    have hws := hw.size
    by_cases hlt : k < fs.length
    · have hd : decide ((k : Int) < (fs.length : Int)) = true := by simp; omega
      obtain ⟨b, off, uo, uc, e, hb1, hb2, hb3, hb4⟩ := hB.at hlt
      subst e
      replace hb2 := range_keep2 (w := w) hb2 hw hb1
      have hk1 : 0 ≤ (k : Int) ∧ (k : Int) < (fs.length : Int) := by omega
      have hsn : Hid (fs.take (k + 1) = fs.take k ++ [gf fs k]) := hide (ftake_snoc fs k hlt)
      have htl : (fs.take k).length = k := by rw [List.length_take]; omega
      replace htl := hide htl
      have hfd := hb4.2.1
      unfold frow at hb2
      have r0 := hp1_0 wr (.cells #[.int .i64 0, .int .i64 0, .int .u64 0, .slice none 0 0] 38)
      have hba : Below wr.heap.size wr (wr.alloc (.cells #[.int .i64 0, .int .i64 0, .int .u64 0, .slice none 0 0] 38)) := (Below.refl _ _).alloc (Nat.le_refl _) _
      have r1 := setRow_heap _ wr.heap.size _ #[.int .i64 (gf fs k).no, .int .i64 (gf fs k).ty, .int .u64 ((gf fs k).num : Int), .slice uo (gf fs k).dat.length uc] _ _ r0
      replace hba := below_setRow hba (Nat.le_refl _) #[.int .i64 (gf fs k).no, .int .i64 (gf fs k).ty, .int .u64 ((gf fs k).num : Int), .slice uo (gf fs k).dat.length uc]
      have hone : (#[.int .i64 (gf fs k).no, .int .i64 (gf fs k).ty, .int .u64 ((gf fs k).num : Int), .slice uo (gf fs k).dat.length uc] : Array Value).all (·.oneCell') = true := by simp [Value.oneCell']
      have cD : (((wr.alloc (.cells #[.int .i64 0, .int .i64 0, .int .u64 0, .slice none 0 0] 38)).setRow wr.heap.size #[.int .i64 (gf fs k).no, .int .i64 (gf fs k).ty, .int .u64 ((gf fs k).num : Int), .slice uo (gf fs k).dat.length uc]).alloc (.cells #[] 5)).cell? ⟨wr.heap.size, 3, none⟩ = some (.slice uo (gf fs k).dat.length uc) := by
        rw [World.cell?_of_block (a := ⟨wr.heap.size, 3, none⟩) (((Below.refl _ _).alloc (Nat.le_refl _) (.cells #[] 5)).block wr.heap.size (lt_of_row r1))]
        exact cell_of_row _ _ _ _ _ _ r1
      have hI1 := hI.keep hba
      have hhi := hI.high
      have hw1 := Below.after hw hba
      generalize hT : fs.take k = Tk at *
      go_wp2_with (first | (refine wpList_load_fd rfl _ rfl b (off + k * 4) rfl _ _ _ _ hb2 ?_) | (refine wpList_alloc rfl 38 rfl #[.int .i64 0, .int .i64 0, .int .u64 0, .slice none 0 0] zFd ?_) | (refine wpList_store_row rfl 38 _ _ rfl (wr.heap.size) #[.int .i64 (gf fs k).no, .int .i64 (gf fs k).ty, .int .u64 ((gf fs k).num : Int), .slice uo (gf fs k).dat.length uc] rfl rfl 38 _ r0 infoF rfl hone ?_) | (at_builtin; suffices h9 : True ∧ _ from h9.2) | fail)
      refine ⟨trivial, ?_⟩
      have l0 := lt_of_row r1
      have hs1 : ((wr.alloc (.cells #[.int .i64 0, .int .i64 0, .int .u64 0, .slice none 0 0] 38)).setRow wr.heap.size #[.int .i64 (gf fs k).no, .int .i64 (gf fs k).ty, .int .u64 ((gf fs k).num : Int), .slice uo (gf fs k).dat.length uc]).heap.size = wr.heap.size + 1 := by rw [setRow_sz, size_alloc1]
      clear r0 hone hb2
      generalize (wr.alloc (.cells #[.int .i64 0, .int .i64 0, .int .u64 0, .slice none 0 0] 38)).setRow wr.heap.size #[.int .i64 (gf fs k).no, .int .i64 (gf fs k).ty, .int .u64 ((gf fs k).num : Int), .slice uo (gf fs k).dat.length uc] = w1 at *
      have hbe : Below w1.heap.size w1 (w1.alloc (.cells #[] 5)) := (Below.refl _ _).alloc (Nat.le_refl _) _
      have hE := hb3.keep (Below.after hw1 hbe)
      have hOn := own_nil w1
      rw [hs1] at hOn
      refine wpList_append_B rfl (.tmp 17) (.tmp 19) rfl (wr.heap.size + 1) _ [] rfl hOn _ (gf fs k).dat rfl hE (by simp only [List.length_nil]; omega) (by rw [← hs1]; exact hbe.size) ?_
      intro u2 w2 hO2 hgr
      rw [List.nil_append, ← hs1] at hO2
      have hbf := hbe.grown hgr hbe.size (fun k' e => by have := own_low hOn k' e; omega)
      clear hOn
      have hI2 := hI1.keep hbf
      have hw2 := Below.after hw1 hbf
      have r2 := keep hbf r1
      have s2 := hbf.size
      clear hgr hbe hE cD r1 hI1 hI
      have hfz := row_frozen r2 3
      have c3 : w2.cell? ⟨wr.heap.size, 3, none⟩ = some (.slice uo (gf fs k).dat.length uc) := cell_of_row _ _ _ _ _ _ r2
      have r3 := heap_setCell_same w2 wr.heap.size 3 _ _ u2 r2
      have hsz3 : (w2.setCell ⟨wr.heap.size, 3, none⟩ u2).heap.size = w2.heap.size := by simp [World.setCell]
      have hw3 := hw2.setCell (p := ⟨wr.heap.size, 3, none⟩) hws u2
      have hne : ∀ g, w.heap.size ≤ 0 + g → g ≠ wr.heap.size → (w2.setCell ⟨wr.heap.size, 3, none⟩ u2).heap[g]? = w2.heap[g]? := fun g _ hg => heap_setCell_other w2 ⟨wr.heap.size, 3, none⟩ g u2 hg
      have hgb : w2.grownBy (w2.setCell ⟨wr.heap.size, 3, none⟩ u2) (some wr.heap.size) := grown_setCell (World.grownBy.refl _ _)
      have hO3 : Own (w2.setCell ⟨wr.heap.size, 3, none⟩ u2) w1.heap.size u2 (gf fs k).dat := hO2.grown hgb (own_ne hO2 l0)
      have hI3 : Fts (w2.setCell ⟨wr.heap.size, 3, none⟩ u2) w.heap.size (.slice so k sc) us Tk := by
        obtain ⟨q1, q2, q3, q4⟩ := hI2
        refine ⟨?_, q2, fun i hi => ?_, q4⟩
        · obtain ⟨p1, p2 | ⟨g, cp, cur, p2, pb, pg, p3⟩⟩ := q1
          · exact ⟨p1, .inl p2⟩
          · refine ⟨p1, .inr ⟨g, cp, cur, p2, pb, (heap_setCell_other w2 ⟨wr.heap.size, 3, none⟩ g u2 ?_).trans pg, p3⟩⟩
            have := hhi.1 g (by rw [p2]; rfl)
            show g ≠ wr.heap.size
            omega
        · exact (q3 i hi).grown hgb (fun k' l c e => by have := hhi.2 i hi k' (by rw [e]; rfl); omega)
      obtain ⟨uo2, uc2, hue⟩ := slen_own hO2
      have er3 : (#[.int .i64 (gf fs k).no, .int .i64 (gf fs k).ty, .int .u64 ((gf fs k).num : Int), .slice uo (gf fs k).dat.length uc] : Array Value).setIfInBounds 3 u2 = #[.int .i64 (gf fs k).no, .int .i64 (gf fs k).ty, .int .u64 ((gf fs k).num : Int), u2] := by simp
      rw [er3] at r3
      clear hI2 hO2 r2 hgb hne er3
      subst hue
      go_wp2_with (first | (refine wpList_load_want rfl 38 _ rfl (wr.heap.size) rfl 38 #[.int .i64 (gf fs k).no, .int .i64 (gf fs k).ty, .int .u64 ((gf fs k).num : Int), (.slice uo2 (gf fs k).dat.length uc2)] (0, 0) _ r3 Try.underlying38 rfl infoF ?_) | (at_builtin; suffices h9 : True ∧ _ from h9.2) | fail)
      refine ⟨trivial, ?_⟩
      generalize w2.setCell ⟨wr.heap.size, 3, none⟩ (.slice uo2 (gf fs k).dat.length uc2) = w3 at *
      have hbn : Below w3.heap.size w3 (w3.alloc (.cells #[.int .i64 (gf fs k).no, .int .i64 (gf fs k).ty, .int .u64 ((gf fs k).num : Int), (.slice uo2 (gf fs k).dat.length uc2)] 38)) := (Below.refl _ _).alloc (Nat.le_refl _) _
      have hI4 := hI3.keep hbn
      have hO4 := hO3.keep hbn
      have hnc := new_cells4 w3 #[.int .i64 (gf fs k).no, .int .i64 (gf fs k).ty, .int .u64 ((gf fs k).num : Int), (.slice uo2 (gf fs k).dat.length uc2)] 38
      rw [hsz3] at hnc
      refine wpList_append_F rfl (.tmp 22) (.tmp 24) rfl w.heap.size _ us Tk rfl w1.heap.size hI4 (fun k' e => by have := hhi.1 k' e; omega) (fun i hi k' e => by have := hhi.2 i hi k' e; omega) (by omega) _ (gf fs k) hO4 w2.heap.size rfl hnc (by rw [htl.out]; omega) (by rw [size_alloc1]; omega) ?_
      intro v5 w5 hI5 hgr hnx
      have hw5 := (hw3.alloc hw3.size (.cells #[.int .i64 (gf fs k).no, .int .i64 (gf fs k).ty, .int .u64 ((gf fs k).num : Int), (Value.slice uo2 (gf fs k).dat.length uc2)] 38)).grown hgr (by rw [size_alloc1]; omega) (fun k' e => (own_high_row hI4.1 k' e).1)
      obtain ⟨o5, c5, hv5⟩ := slen_own hI5.1
      have hl5 : (Tk ++ [gf fs k]).length = k + 1 := by rw [List.length_append, htl.out]; rfl
      rw [hl5] at hv5
      subst hv5
      rw [← hsn.out] at hI5
      clear hgr hnx hI3 hI4 hO3 hO4 r3
      go_wp2_with (fail)
      refine ⟨⟨k + 1, _, o5, c5, by omega, by go_num, rfl, hI5, hw5⟩, ?_⟩
      simp [intOf]; omega
    · obtain rfl : k = fs.length := by omega
      have hd : decide ((fs.length : Int) < (fs.length : Int)) = false := by simp
      rw [List.take_length] at hI
      go_wp2_with (fail)
      go_ret
      exact ⟨_, us, rfl, hI, hw⟩
end Go.Proofs.Ytohjcdmhejmnfaa
