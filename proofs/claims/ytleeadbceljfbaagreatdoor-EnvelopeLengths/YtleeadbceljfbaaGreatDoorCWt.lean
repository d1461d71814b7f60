import Derived.Test.YtleeadbceljfbaaGreatDoorProg
import Derived.WalkKit
import Derived.WalkSpells
import Derived.WalkLawsBesides
import Derived.Lib.QuietBelow
import Derived.Laws.BitsAllLaws
import Derived.BigQuiet
import Derived.WalkMore
import Derived.Test.YtleeadbceljfbaaGreatDoorCKa
import Derived.Test.YtleeadbceljfbaaGreatDoorCWr
namespace Go.Proofs.YtleeadbceljfbaaGreatDoor
set_option maxRecDepth 100000
open Go Go.RowKit Go.Sort
attribute [local go_sem] setCell_drewN alloc_drewN
theorem lst_nn {fs : List Fd} : ∀ k, (∀ i, i < k → fck (gf fs i) (lst fs i) = 0) → 0 ≤ lst fs k
 | 0, _ => by rw [lst, if_pos rfl]; exact Int.le_refl _
 | k + 1, h => by
   have h1 := lst_nn k (fun i hi => h i (by omega))
   have h2 := (fck_ok (h k (by omega))).1
   rw [lst_succ]
   omega
theorem ech_at {fs : List Fd} : ∀ k, k ≤ fs.length → (∀ i, i < k → fck (gf fs i) (lst fs i) = 0) → ech fs 0 = ech (fs.drop k) (lst fs k)
 | 0, _, _ => by rw [lst, if_pos rfl]; rfl
 | k + 1, hk, h => by
   rw [ech_at k (by omega) (fun i hi => h i (by omega)), fdrop_at fs k (by omega), ech, if_neg (by rw [h k (by omega)]; simp), lst_succ]
theorem fvl_bd {f : Fd} (hf : Fok f) : (fvl f).length ≤ 140737488351242 := by
 have h1 := en_ten hf.1
 have h2 := itm_len f.dat
 have h3 := en_ten (n := f.dat.length) (by have := hf.2.1; omega)
 have h4 := hf.2.1
 unfold fvl
 split
 · omega
 · split
   · rw [fx_len]; omega
   · split
     · rw [fx_len]; omega
     · omega
theorem fby_bd {f : Fd} (hf : Fok f) (h1 : f.no ≤ 536870911) (h2 : f.ty < 8) : (fby f).length ≤ 140737488351252 := by
 have := fvl_bd hf
 have := en_ten (Fok.hd h1 h2)
 rw [fby, List.length_append]
 omega
theorem ebs_bd {fs : List Fd} (hF : ∀ i, i < fs.length → Fok (gf fs i)) : ∀ k, k ≤ fs.length → (∀ i, i < k → fck (gf fs i) (lst fs i) = 0) → (ebs (fs.take k)).length ≤ k * 140737488351252
 | 0, _, _ => by simp [ebs]
 | k + 1, hk, h => by
   have h1 := ebs_bd hF k (by omega) (fun i hi => h i (by omega))
   have h2 := fck_ok (h k (by omega))
   have h3 := fby_bd (hF k (by omega)) h2.2.1 (known_lt h2.2.2.1).2
   rw [ebs_snoc fs k (by omega), List.length_append]
   omega
theorem Fds.oks {W : World} {v : Value} {fs : List Fd} (h : Fds W v fs) : ∀ i, i < fs.length → Fok (gf fs i) := fun _ hi => h.ok hi
set_option maxRecDepth 100000 in
set_option maxHeartbeats 8000000 in
theorem a_encode (fs : List Fd) (w : World) (v : Value) (hB : Fds w v fs) : Calls Tryz.prog 67 #[v] w fun e w' => ∃ u, e = .returned (.tuple #[u, .int .i64 (eer fs)]) ∧ Own w' w.heap.size u (eout fs) ∧ Below w.heap.size w w' := by
 have hlen := hB.len
 have hoks := hide hB.oks
 obtain ⟨ao, cap, rfl⟩ := hB.form
 by_cases h1 : 64 < fs.length
 · have d1 : decide ((fs.length : Int) > 64) = true := by simp; omega
   have e1 : eer fs = 2 := if_pos h1
   have e2 : eout fs = [] := if_neg (by rw [e1]; decide)
   rw [e1, e2]
   go_enter Tryz.func67, Tryz.ntmps67
   go_wp2_with (fail)
   go_ret2
   exact ⟨_, rfl, own_none _ _, Below.refl _ _⟩
 · have d1 : decide ((fs.length : Int) > 64) = false := by simp; omega
   have hee : Hid (eer fs = if ech fs 0 ≠ 0 then ech fs 0 else if 4194304 < (ebs fs).length then 2 else 0) := hide (if_neg h1)
   go_enter Tryz.func67, Tryz.ntmps67
   go_wp2_with (fail)
   go_loopw [4, 5, 17] (fun s l i wr => ∃ k : Nat, k ≤ fs.length ∧ i = .int .i64 k ∧ s = .int .i64 ((ebs (fs.take k)).length : Int) ∧ l = .int .i64 (lst fs k) ∧ (∀ i, i < k → fck (gf fs i) (lst fs i) = 0) ∧ Below w.heap.size w wr) (fun _ _ i _ => fs.length - (intOf i).toNat)
   case atStart => exact ⟨0, by omega, rfl, rfl, rfl, fun i hi => by omega, Below.refl _ _⟩
   case round =>
     obtain ⟨k, hk, rfl, rfl, rfl, hck, hw⟩ := hrel
     have hbk := ebs_bd hoks.out k hk hck
     have hln := lst_nn k hck
     have hech := ech_at k hk hck
     by_cases hlt : k < fs.length
     · have hd : decide ((k : Int) < (fs.length : Int)) = true := by simp; omega
       obtain ⟨b, off, uo, uc, e, hb1, hb2, hb3, hb4⟩ := hB.at hlt
       subst e
       have hbr := hb2
       replace hb2 := range_keep2 (w := w) hb2 hw hb1
       have hk1 : 0 ≤ (k : Int) ∧ (k : Int) < (fs.length : Int) := by omega
       rw [fdrop_at fs k hlt, ech] at hech
       replace hck := hide hck
       have cC := a_checkField (gf fs k) uo uc (lst fs k)
       unfold fagg at cC
       have hsn : Hid ((ebs (fs.take (k + 1))).length = (ebs (fs.take k)).length + (fby (gf fs k)).length) := hide (by rw [ebs_snoc fs k hlt, List.length_append])
       clear hb3 hbr
       unfold frow at hb2
       generalize hS : (ebs (fs.take k)).length = S at *
       have r0 := hp1_0 wr (.cells #[.int .i64 0, .int .i64 0, .int .u64 0, .slice none 0 0] 60)
       have hba : Below wr.heap.size wr (wr.alloc (.cells #[.int .i64 0, .int .i64 0, .int .u64 0, .slice none 0 0] 60)) := (Below.refl _ _).alloc (Nat.le_refl _) _
       have r1 := setRow_heap _ wr.heap.size _ #[.int .i64 (gf fs k).no, .int .i64 (gf fs k).ty, .int .u64 ((gf fs k).num : Int), .slice uo (gf fs k).dat.length uc] _ _ r0
       replace hba := below_setRow hba (Nat.le_refl _) #[.int .i64 (gf fs k).no, .int .i64 (gf fs k).ty, .int .u64 ((gf fs k).num : Int), .slice uo (gf fs k).dat.length uc]
       have hone : (#[.int .i64 (gf fs k).no, .int .i64 (gf fs k).ty, .int .u64 ((gf fs k).num : Int), .slice uo (gf fs k).dat.length uc] : Array Value).all (·.oneCell') = true := by simp [Value.oneCell']
       have c0 : ((wr.alloc (.cells #[.int .i64 0, .int .i64 0, .int .u64 0, .slice none 0 0] 60)).setRow wr.heap.size #[.int .i64 (gf fs k).no, .int .i64 (gf fs k).ty, .int .u64 ((gf fs k).num : Int), .slice uo (gf fs k).dat.length uc]).cell? ⟨wr.heap.size, 0, none⟩ = some (.int .i64 (gf fs k).no) := cell_of_row _ _ _ _ _ _ r1
       go_wp2_with (first | (refine wpList_load_fd rfl _ rfl b (off + k * 4) rfl _ _ _ _ hb2 ?_) | (refine wpList_alloc rfl 60 rfl #[.int .i64 0, .int .i64 0, .int .u64 0, .slice none 0 0] zFd ?_) | (refine wpList_store_row rfl 60 _ _ rfl (wr.heap.size) #[.int .i64 (gf fs k).no, .int .i64 (gf fs k).ty, .int .u64 ((gf fs k).num : Int), .slice uo (gf fs k).dat.length uc] rfl rfl 60 _ r0 infoF rfl hone ?_) | (refine wpList_load_want rfl 60 _ rfl (wr.heap.size) rfl 60 #[.int .i64 (gf fs k).no, .int .i64 (gf fs k).ty, .int .u64 ((gf fs k).num : Int), .slice uo (gf fs k).dat.length uc] (0, 0) _ r1 Tryz.underlying60 rfl infoF ?_) | fail)
       have l0 := lt_of_row r1
       generalize (wr.alloc (.cells #[.int .i64 0, .int .i64 0, .int .u64 0, .slice none 0 0] 60)).setRow wr.heap.size #[.int .i64 (gf fs k).no, .int .i64 (gf fs k).ty, .int .u64 ((gf fs k).num : Int), .slice uo (gf fs k).dat.length uc] = w0 at *
       clear r0 hone
       replace hw := Below.after hw hba
       clear hb2
       have cC0 := cC w0
       clear cC
       refine cC0.mono ?_
       rintro e_ w1 ⟨rfl, hb⟩
       replace hw := Below.after hw hb
       replace r1 := keep hb r1
       replace c0 := (hb.cell (p := ⟨wr.heap.size, 0, none⟩) l0).trans c0
       replace l0 := Nat.lt_of_lt_of_le l0 hb.size
       clear hb cC0 hba
       by_cases he : fck (gf fs k) (lst fs k) = 0
       · rw [if_neg (by rw [he]; simp)] at hech
         have hfo := fck_ok he
         have cS := a_sizeOfField (gf fs k) uo uc hb4 (by omega) hfo.2.1 hfo.2.2.1 w1
         unfold fagg at cS
         have hfb := fby_bd hb4 hfo.2.1 (known_lt hfo.2.2.1).2
         have hck2 : Hid (∀ i, i < k + 1 → fck (gf fs i) (lst fs i) = 0) := hide (fun i hi => by
           rcases Nat.lt_or_ge i k with q | q
           · exact hck.out i q
           · obtain rfl : i = k := by omega
             exact he)
         rw [he]
         clear he hech hfo
         generalize (fby (gf fs k)).length = F at *
         go_wp2_with (first | (refine wpList_load_want rfl 60 _ rfl (wr.heap.size) rfl 60 #[.int .i64 (gf fs k).no, .int .i64 (gf fs k).ty, .int .u64 ((gf fs k).num : Int), .slice uo (gf fs k).dat.length uc] (0, 0) _ r1 Tryz.underlying60 rfl infoF ?_) | fail)
         refine cS.mono ?_
         rintro e_ w2 ⟨rfl, hb⟩
         replace hw := Below.after hw hb
         replace c0 := (hb.cell (p := ⟨wr.heap.size, 0, none⟩) l0).trans c0
         clear hb cS r1
         have hsum : (S : Int) + (F : Int) ≤ 9223372036854775807 := by omega
         go_wp2_with (fail)
         refine ⟨⟨k + 1, by omega, by go_num, by rw [hsn.out, Int.natCast_add], by rw [lst_succ], hck2.out, hw⟩, ?_⟩
         simp [intOf]; omega
       · have hn : ech fs 0 = fck (gf fs k) (lst fs k) := by rw [hech, if_pos he]
         have e1 : eer fs = fck (gf fs k) (lst fs k) := by rw [hee.out, if_pos (by rw [hn]; exact he), hn]
         have e2 : eout fs = [] := if_neg (by rw [e1]; exact he)
         have hq : (fck (gf fs k) (lst fs k) == 0) = false := by simpa using he
         have hfin : Hid (eer fs = fck (gf fs k) (lst fs k) ∧ eout fs = []) := hide ⟨e1, e2⟩
         clear e1 e2 hn hech he hck hee
         generalize fck (gf fs k) (lst fs k) = E at *
         go_wp2_with (fail)
         go_ret2
         rw [hfin.out.1, hfin.out.2]
         exact ⟨_, rfl, own_none _ _, hw⟩
     · obtain rfl : k = fs.length := by omega
       have hd : decide ((fs.length : Int) < (fs.length : Int)) = false := by simp
       rw [List.drop_length, ech] at hech
       rw [List.take_length] at hbk
       rw [List.take_length]
       have hee2 : eer fs = if 4194304 < (ebs fs).length then 2 else 0 := by rw [hee.out, if_neg (by rw [hech]; simp)]
       by_cases h2 : 4194304 < (ebs fs).length
       · rw [if_pos h2] at hee2
         have e2 : eout fs = [] := if_neg (by rw [hee2]; decide)
         have hfin : Hid (eer fs = 2 ∧ eout fs = []) := hide ⟨hee2, e2⟩
         clear hee hee2 e2 hech hck
         generalize (ebs fs).length = S at *
         have d2 : decide ((S : Int) > 4194304) = true := by simp; omega
         go_wp2_with (fail)
         go_ret2
         rw [hfin.out.1, hfin.out.2]
         exact ⟨_, rfl, own_none _ _, hw⟩
       · rw [if_neg h2] at hee2
         have e2 : eout fs = ebs fs := if_pos hee2
         have hfin : Hid (eer fs = 0 ∧ eout fs = ebs fs) := hide ⟨hee2, e2⟩
         clear hee hee2 e2 hech
         have hmono := ebs_mono fs
         have hmk := make_lc 0 (ebs fs).length (by omega) (by omega) wr
         rw [show ((0 : Nat) : Int) = 0 from rfl] at hmk
         have r0 := hp1_0 wr (.cells (irow .u8 (zr (ebs fs).length)) 5)
         have hw0 := hw.alloc hw.size (.cells (irow .u8 (zr (ebs fs).length)) 5)
         have hO0 : Own (wr.alloc (.cells (irow .u8 (zr (ebs fs).length)) 5)) w.heap.size (.slice (some ⟨wr.heap.size, 0, none⟩) 0 (ebs fs).length) [] := by
           have := own_of_row (d := []) (T := zr (ebs fs).length) (b := w.heap.size) r0 hw.size (by rw [zr_len]; unfold maxLen; simp; omega)
           rw [zr_len] at this
           simpa using this
         replace hck := hide hck
         clear r0
         generalize hS : (ebs fs).length = S at *
         have d2 : decide ((S : Int) > 4194304) = false := by simp; omega
         go_wp2_with (fail)
         generalize wr.alloc (.cells (irow .u8 (zr S)) 5) = w2 at *
         clear hmk
         go_loopw [9, 40] (fun s i wr => ∃ (k : Nat) (so : Option Addr) (sc : Nat), k ≤ fs.length ∧ i = .int .i64 k ∧ s = .slice so (ebs (fs.take k)).length sc ∧ Own wr w.heap.size (.slice so (ebs (fs.take k)).length sc) (ebs (fs.take k)) ∧ Below w.heap.size w wr) (fun _ i _ => fs.length - (intOf i).toNat)
         case atStart => exact ⟨0, _, _, by omega, rfl, rfl, hO0, hw0⟩
         case round =>
           clear hO0 hw0 hw
           obtain ⟨k, so, sc, hk, rfl, rfl, hO, hw⟩ := hrel
           by_cases hlt : k < fs.length
           · have hd2 : decide ((k : Int) < (fs.length : Int)) = true := by simp; omega
             obtain ⟨b, off, uo, uc, e, hb1, hb2, hb3, hb4⟩ := hB.at hlt
             subst e
             replace hb2 := range_keep2 (w := w) hb2 hw hb1
             have hk1 : 0 ≤ (k : Int) ∧ (k : Int) < (fs.length : Int) := by omega
             have hsn : Hid (ebs (fs.take (k + 1)) = ebs (fs.take k) ++ fby (gf fs k)) := hide (ebs_snoc fs k hlt)
             have hmk := hmono (k + 1)
             rw [hsn.out, List.length_append] at hmk
             have hfo := fck_ok (hck.out k hlt)
             have hln := lst_nn k (fun i hi => hck.out i (by omega))
             unfold frow at hb2
             generalize hJ : ebs (fs.take k) = J at *
             have r0 := hp1_0 wr (.cells #[.int .i64 0, .int .i64 0, .int .u64 0, .slice none 0 0] 60)
             have hba : Below wr.heap.size wr (wr.alloc (.cells #[.int .i64 0, .int .i64 0, .int .u64 0, .slice none 0 0] 60)) := (Below.refl _ _).alloc (Nat.le_refl _) _
             have r1 := setRow_heap _ wr.heap.size _ #[.int .i64 (gf fs k).no, .int .i64 (gf fs k).ty, .int .u64 ((gf fs k).num : Int), .slice uo (gf fs k).dat.length uc] _ _ r0
             replace hba := below_setRow hba (Nat.le_refl _) #[.int .i64 (gf fs k).no, .int .i64 (gf fs k).ty, .int .u64 ((gf fs k).num : Int), .slice uo (gf fs k).dat.length uc]
             have hone : (#[.int .i64 (gf fs k).no, .int .i64 (gf fs k).ty, .int .u64 ((gf fs k).num : Int), .slice uo (gf fs k).dat.length uc] : Array Value).all (·.oneCell') = true := by simp [Value.oneCell']
             have c0 : ((wr.alloc (.cells #[.int .i64 0, .int .i64 0, .int .u64 0, .slice none 0 0] 60)).setRow wr.heap.size #[.int .i64 (gf fs k).no, .int .i64 (gf fs k).ty, .int .u64 ((gf fs k).num : Int), .slice uo (gf fs k).dat.length uc]).cell? ⟨wr.heap.size, 0, none⟩ = some (.int .i64 (gf fs k).no) := cell_of_row _ _ _ _ _ _ r1
             go_wp2_with (first | (refine wpList_load_fd rfl _ rfl b (off + k * 4) rfl _ _ _ _ hb2 ?_) | (refine wpList_alloc rfl 60 rfl #[.int .i64 0, .int .i64 0, .int .u64 0, .slice none 0 0] zFd ?_) | (refine wpList_store_row rfl 60 _ _ rfl (wr.heap.size) #[.int .i64 (gf fs k).no, .int .i64 (gf fs k).ty, .int .u64 ((gf fs k).num : Int), .slice uo (gf fs k).dat.length uc] rfl rfl 60 _ r0 infoF rfl hone ?_) | (refine wpList_load_want rfl 60 _ rfl (wr.heap.size) rfl 60 #[.int .i64 (gf fs k).no, .int .i64 (gf fs k).ty, .int .u64 ((gf fs k).num : Int), .slice uo (gf fs k).dat.length uc] (0, 0) _ r1 Tryz.underlying60 rfl infoF ?_) | fail)
             have l0 := lt_of_row r1
             generalize (wr.alloc (.cells #[.int .i64 0, .int .i64 0, .int .u64 0, .slice none 0 0] 60)).setRow wr.heap.size #[.int .i64 (gf fs k).no, .int .i64 (gf fs k).ty, .int .u64 ((gf fs k).num : Int), .slice uo (gf fs k).dat.length uc] = w0 at *
             clear r0 hone
             replace hO := hO.keep hba
             replace hw := Below.after hw hba
             have hlow : ∀ a, uo = some a → 0 < (gf fs k).dat.length → (Value.slice so J.length sc).ownBlock ≠ some a.block := fun a ha hl e => by
               have h1 := own_low hO _ e
               obtain ⟨b9, o9, e8, hb9, _⟩ := hb3.cellAt (j := 0) hl
               rw [ha] at e8
               cases e8
               simp only at h1
               omega
             have cA := a_addField J (gf fs k) w.heap.size w0 _ uo uc hO hw.size (hb3.keep hw) hlow hb4 (by omega) hfo.2.1 hfo.2.2.1 (by omega)
             unfold fagg at cA
             clear hb2 hb3 hO hmk hlow c0
             generalize hG : fby (gf fs k) = G at *
             refine cA.mono ?_
             rintro e_ w3 ⟨x, rfl, ⟨hx, _, _⟩, hb⟩
             replace hw := hw.trans hb
             obtain ⟨xo, xc, rfl⟩ := slen_own hx
             clear cA hb
             go_wp2_with (fail)
             refine ⟨⟨k + 1, xo, xc, by omega, by go_num, by rw [hsn.out, List.length_append], by rw [hsn.out]; exact hx, hw⟩, ?_⟩
             simp [intOf]; omega
           · obtain rfl : k = fs.length := by omega
             have hd2 : decide ((fs.length : Int) < (fs.length : Int)) = false := by simp
             rw [List.take_length] at hO
             rw [List.take_length]
             generalize hJ : ebs fs = J at *
             go_wp2_with (fail)
             go_ret2
             rw [hfin.out.1, hfin.out.2]
             exact ⟨_, rfl, hO, hw⟩
end Go.Proofs.YtleeadbceljfbaaGreatDoor
namespace Go.Proofs.YtleeadbceljfbaaGreatDoor
set_option maxRecDepth 100000
open Go Go.RowKit Go.Sort
attribute [local go_sem] setCell_drewN alloc_drewN
set_option maxRecDepth 100000 in
theorem info48 : ∃ i, Tryz.prog.info? 60 = some i ∧ i.zero = some (.agg #[.int .i64 0, .int .i64 0, .int .u64 0, .slice none 0 0]) ∧ i.size = 4 ∧ i.bytes = 48 := ⟨_, rfl, rfl, rfl, rfl⟩
def frs : List Fd → List Value → List Value
 | f :: fs, u :: us => frow f u ++ frs fs us
 | _, _ => []
theorem frs_len : ∀ (fs : List Fd) (us : List Value), us.length = fs.length → (frs fs us).length = fs.length * 4
 | [], _, _ => by simp [frs]
 | f :: fs, [], h => by simp at h
 | f :: fs, u :: us, h => by
   rw [frs, List.length_append, frs_len fs us (by simpa using h), List.length_cons]
   show 4 + _ = _
   omega
theorem frs_snoc : ∀ (fs : List Fd) (us : List Value) (f : Fd) (u : Value), us.length = fs.length → frs (fs ++ [f]) (us ++ [u]) = frs fs us ++ frow f u
 | [], [], f, u, _ => by simp [frs]
 | [], _ :: _, _, _, h => by simp at h
 | _ :: _, [], _, _, h => by simp at h
 | g :: fs, v :: us, f, u, h => by
   rw [List.cons_append, List.cons_append, frs, frs, frs_snoc fs us f u (by simpa using h), List.append_assoc]
theorem frs_at : ∀ (fs : List Fd) (us : List Value) (i j : Nat), us.length = fs.length → i < fs.length → j < 4 → (frs fs us)[i * 4 + j]? = (frow (gf fs i) (gv us i))[j]?
 | [], _, i, _, _, h, _ => by simp at h
 | f :: fs, [], _, _, h, _, _ => by simp at h
 | f :: fs, u :: us, 0, j, h, _, hj => by
   rw [frs, Nat.zero_mul, Nat.zero_add, List.getElem?_append_left (by show j < 4; exact hj)]
   rfl
 | f :: fs, u :: us, i + 1, j, h, hi, hj => by
   rw [frs, List.getElem?_append_right (by show 4 ≤ _; omega)]
   have : (i + 1) * 4 + j - (frow f u).length = i * 4 + j := by show _ - 4 = _; omega
   rw [this, frs_at fs us i j (by simpa using h) (by simpa using hi) hj]
   rfl
def Fts (W : World) (base : Nat) (v : Value) (us : List Value) (fs : List Fd) : Prop :=
 W.ownsRow base 60 4 v fs.length (frs fs us) ∧ us.length = fs.length ∧ (∀ i, i < us.length → Own W base (gv us i) (gf fs i).dat) ∧
 (∀ i, i < us.length → ∀ k, (gv us i).ownBlock = some k → v.ownBlock ≠ some k) ∧ (∀ i j, i < j → j < us.length → ∀ k, (gv us i).ownBlock = some k → (gv us j).ownBlock ≠ some k)
theorem Fts.keep {W V : World} {b : Nat} {v : Value} {us : List Value} {fs : List Fd} (h : Fts W b v us fs) (hb : Below W.heap.size W V) : Fts V b v us fs :=
 ⟨own_keep_row h.1 hb, h.2.1, fun i hi => (h.2.2.1 i hi).keep hb, h.2.2.2⟩
theorem fts_nil (W : World) (b : Nat) : Fts W b (.slice none 0 0) [] [] := ⟨⟨rfl, .inl ⟨rfl, rfl⟩⟩, rfl, fun i hi => by simp at hi, fun i hi => by simp at hi, fun i j _ hj => by simp at hj⟩
theorem fts_empty (W : World) : Fts (W.alloc (.cells #[] 60)) W.heap.size (.slice (some ⟨W.heap.size, 0, none⟩) 0 0) [] [] :=
 ⟨⟨rfl, .inr ⟨W.heap.size, 0, #[], rfl, Nat.le_refl _, hp1_0 _ _, Nat.le_refl _, by decide, rfl, rfl⟩⟩, rfl, fun i hi => by simp at hi, fun i hi => by simp at hi, fun i j _ hj => by simp at hj⟩
theorem gf_app_lo {fs : List Fd} {f : Fd} {i : Nat} (h : i < fs.length) : gf (fs ++ [f]) i = gf fs i := by
 rw [gf, gf, List.getD_eq_getElem?_getD, List.getElem?_append_left h, ← List.getD_eq_getElem?_getD]
theorem gf_app_hi {fs : List Fd} {f : Fd} : gf (fs ++ [f]) fs.length = f := by
 rw [gf, List.getD_eq_getElem?_getD, List.getElem?_append_right (Nat.le_refl _), Nat.sub_self]; rfl
theorem Fts.high {W : World} {b : Nat} {v : Value} {us : List Value} {fs : List Fd} (h : Fts W b v us fs) : (∀ k, v.ownBlock = some k → k < W.heap.size) ∧ ∀ i, i < us.length → ∀ k, (gv us i).ownBlock = some k → k < W.heap.size :=
 ⟨fun k e => (own_high_row h.1 k e).2, fun i hi k e => own_high (h.2.2.1 i hi) k e⟩
theorem Fts.snoc {W W' : World} {b L : Nat} {v v' : Value} {us : List Value} {fs : List Fd} {u : Value} {f : Fd} (h : Fts W b v us fs) (hL : ∀ k, v.ownBlock = some k → k < L) (hLi : ∀ i, i < us.length → ∀ k, (gv us i).ownBlock = some k → k < L) (hbL : b ≤ L)
   (hu : Own W L u f.dat) (ho : W'.ownsRow b 60 4 v' (fs.length + 1) (frs fs us ++ frow f u)) (hg : W.grownBy W' v.ownBlock) (hk : Nx W v v') : Fts W' b v' (us ++ [u]) (fs ++ [f]) := by
 obtain ⟨h1, h2, h3, h4, h5⟩ := h
 have hu2 : Own W' L u f.dat := hu.grown2 hg hL
 have hlu : ∀ k, u.ownBlock = some k → L ≤ k ∧ k < W.heap.size := fun k e => ⟨own_low hu k e, own_high hu k e⟩
 refine ⟨by rw [List.length_append, List.length_singleton, frs_snoc fs us f u h2]; exact ho, by rw [List.length_append, List.length_append, h2]; rfl, fun i hi => ?_, fun i hi k e => ?_, fun i j hij hj k e => ?_⟩
 · rw [List.length_append, List.length_singleton] at hi
   rcases Nat.lt_or_ge i us.length with q | q
   · rw [gv_app_lo q, gf_app_lo (by omega)]
     have ho3 := h3 i q
     obtain ⟨q1, q2 | ⟨g, cap, cur, q2, hb2, hr, q3⟩⟩ := ho3
     · exact ⟨q1, .inl q2⟩
     · refine ⟨q1, .inr ⟨g, cap, cur, q2, hb2, (hg.block g (lt_of_row hr) (fun e => ?_)).trans hr, q3⟩⟩
       exact h4 i q g (by rw [q2]; rfl) e.symm
   · obtain rfl : i = us.length := by omega
     rw [gv_app_hi, h2, gf_app_hi]
     obtain ⟨q1, q2 | ⟨g, cap, cur, q2, hb2, hr⟩⟩ := hu2
     · exact ⟨q1, .inl q2⟩
     · exact ⟨q1, .inr ⟨g, cap, cur, q2, by omega, hr⟩⟩
 · rw [List.length_append, List.length_singleton] at hi
   intro e2
   rcases hk with hk1 | ⟨k', hk1, hk2⟩
   · rw [hk1] at e2
     rcases Nat.lt_or_ge i us.length with q | q
     · rw [gv_app_lo q] at e
       exact h4 i q k e e2
     · obtain rfl : i = us.length := by omega
       rw [gv_app_hi] at e
       have := hL k e2
       have := (hlu k e).1
       omega
   · rw [hk1] at e2
     cases e2
     rcases Nat.lt_or_ge i us.length with q | q
     · rw [gv_app_lo q] at e
       have := own_high (h3 i q) _ e
       omega
     · obtain rfl : i = us.length := by omega
       rw [gv_app_hi] at e
       have := (hlu _ e).2
       omega
 · rw [List.length_append, List.length_singleton] at hj
   rcases Nat.lt_or_ge j us.length with q | q
   · rw [gv_app_lo (by omega)] at e
     rw [gv_app_lo q]
     exact h5 i j hij q k e
   · obtain rfl : j = us.length := by omega
     rw [gv_app_lo hij] at e
     rw [gv_app_hi]
     intro e2
     have := hLi i hij k e
     have := (hlu k e2).1
     omega
theorem Fts.fds {W : World} {b : Nat} {v : Value} {us : List Value} {fs : List Fd} (h : Fts W b v us fs) (hl : fs.length ≤ 2932031007317) (hp : ∀ i, i < fs.length → Fok (gf fs i)) : Fds W v fs := by
 obtain ⟨h1, h2, h3, _⟩ := h
 have h1' := h1
 obtain ⟨_, ⟨rfl, h0⟩ | ⟨g, cap, cur, rfl, hb, hg, hn, hm, hs, ht⟩⟩ := h1'
 · refine ⟨none, 0, by rw [h0], hl, by omega, fun _ => rfl, fun i hi => ?_⟩
   omega
 · refine ⟨some ⟨g, 0, none⟩, cap, rfl, hl, hn, (fun e => by cases e), fun i hi => ⟨g, 0, gv us i, rfl, lt_of_row hg, fun j x hx => ?_, (h3 i (by omega)).bysB (by have := (hp i hi).2.1; omega), hp i hi⟩⟩
   have hj : j < 4 := by have := (List.getElem?_eq_some_iff.1 hx).1; exact this
   have := h1.cells (g := g) rfl (i * 4 + j) x (by rw [frs_at fs us i j h2 hi hj]; exact hx)
   rw [addr_add, ← Nat.add_assoc] at this
   exact this
theorem new_cells4 (wr : World) (cs : Array Value) (t : TypeId) : ∀ j x, cs.toList[j]? = some x → (wr.alloc (.cells cs t)).cell? ((⟨wr.heap.size, 0, none⟩ : Addr).add j) = some x := by
 intro j x hx
 rw [addr_add, cell_of_row _ _ _ _ _ _ (hp1_0 wr (.cells cs t)), Nat.zero_add]
 simpa using hx
theorem wpList_append_F {w : World} {ops : Array Oper} {rest : List Oper} {o : Oper} {a : Act} {Q : Exit → Act → World → Prop} (hgd : o.guard = none) (s x : Operand)
   (ho : o.op = .call { callee := .builtin .append, args := #[s, x], argTypes := #[55, 55] })
   (base : Nat) (v : Value) (us : List Value) (fs : List Fd) (hs : a.eval s = v) (L : Nat) (hI : Fts w base v us fs) (hL : ∀ k, v.ownBlock = some k → k < L) (hLi : ∀ i, i < us.length → ∀ k, (gv us i).ownBlock = some k → k < L) (hbL : base ≤ L)
   (u : Value) (f : Fd) (hu : Own w L u f.dat) (g : Nat) (hx : a.eval x = .slice (some ⟨g, 0, none⟩) 1 1) (hnews : ∀ j x, (frow f u)[j]? = some x → w.cell? ((⟨g, 0, none⟩ : Addr).add j) = some x)
   (hlen : fs.length < 2932031007317) (hbase : base ≤ w.heap.size)
   (h : ∀ v' w', Fts w' base v' (us ++ [u]) (fs ++ [f]) → w.grownBy w' v.ownBlock → Nx w v v' → wpList Tryz.prog ops Q rest (a.put o.dst v') w') : wpList Tryz.prog ops Q (o :: rest) a w := by
 obtain ⟨i0, hi, hz0, hz1, hz2⟩ := info48
 refine wpList_plain hgd fun _ hK => wp_append_nx s x 55 ho base 60 i0 (.agg #[.int .i64 0, .int .i64 0, .int .u64 0, .slice none 0 0]) 4 48 Tryz.underlying55 hi hz0 hz1 hz2 rfl (by decide) v fs.length (frs fs us) hs hI.1 ⟨g, 0, none⟩ 1 1 (frow f u) hx rfl hnews (fun x hx => ?_) (by unfold maxLen; omega) (by omega) hbase (fun v' w' h1 h2 h3 => hK _ _ (h v' w' (hI.snoc hL hLi hbL hu h1 h2 h3) h2 h3))
 obtain ⟨ao, cap, rfl⟩ := slen_own hu
 simp [frow] at hx
 rcases hx with rfl | rfl | rfl | rfl <;> rfl
end Go.Proofs.YtleeadbceljfbaaGreatDoor
