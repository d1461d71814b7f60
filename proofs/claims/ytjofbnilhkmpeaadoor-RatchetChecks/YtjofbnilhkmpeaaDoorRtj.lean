import Derived.Test.YtjofbnilhkmpeaaDoorProg
import Derived.WalkKit
import Derived.WalkSpells
import Derived.WalkLawsBesides
import Derived.Lib.QuietBelow
import Derived.BigQuiet
import Derived.OrdersHeld
import Derived.Deep.RegionHeld3
import Derived.OwnWalk
import Derived.Deep.CutRange
import Derived.Test.YtjofbnilhkmpeaaDoorKa
import Derived.Test.YtjofbnilhkmpeaaDoorRte
namespace Go.Proofs.YtjofbnilhkmpeaaDoor
set_option maxRecDepth 100000
open Go Go.RowKit Go.Sort Go.ChangeMaps Go.MapKept
attribute [local go_sem] setCell_drewN alloc_drewN

set_option maxRecDepth 100000 in
set_option maxHeartbeats 16000000 in
theorem r_Check (s : Stt) (hs : s.ok) (ha : K8 s.opr) (l : List Sr) (w : World) (hl : SpL w s.sp l) : Calls Tryd.prog 9 #[.agg (strow s)] w fun e w' => e = .returned (.int .i64 (rck s l)) ∧ Below w.heap.size w w' := by
  have R0 := hp1_0 w (.cells (strow s) 38)
  have hw : Below w.heap.size w (w.alloc (.cells (strow s) 38)) := (Below.refl _ _).alloc (Nat.le_refl _) _
  have cC := r_Config s.cv s.ck s.cs (w.alloc (.cells (strow s) 38))
  obtain ⟨E, hE⟩ : ∃ E_, cfE s.cv s.ck s.cs = E_ := ⟨_, rfl⟩
  rw [hE] at cC
  replace hE := hide hE
  go_enter Tryd.func9, Tryd.ntmps9
  go_wp2_with (first | (refine wpList_box rfl 38 _ rfl _ rfl (bStA _) ?_) | (refine wpList_load_part rfl 27 _ rfl (w.heap.size) 0 rfl 38 (strow s) (0, 0) (cfrow s.cv s.ck s.cs) _ R0 (st_cfg _ _) Tryd.underlying27 rfl infoCf ?_) | fail)
  refine cC.mono ?_
  rintro e_ w1 ⟨rfl, hb⟩
  replace R0 := keep hb R0
  replace hw := Below.after hw hb
  clear hb cC
  by_cases h0 : E = 0
  · subst h0
    have hz := hp1_0 w1 (.cells (irow .u8 (zr 32)) 23)
    have hb : Below w1.heap.size w1 (w1.alloc (.cells (irow .u8 (zr 32)) 23)) := (Below.refl _ _).alloc (Nat.le_refl _) _
    have lt0 := lt_of_row R0
    replace R0 := keep hb R0
    replace hw := Below.after hw hb
    clear hb
    go_upto_region 5 with (first | (refine wpList_alloc rfl 23 rfl (irow .u8 (zr 32)) zkey ?_) | fail)
    try simp only [Act.put, List.setIfInBounds_toArray, List.set_cons_succ, List.set_cons_zero]
    have R1 := hz
    clear hz
    generalize w1.alloc (.cells (irow .u8 (zr 32)) 23) = w2 at *
    generalize w1.heap.size = g1 at *
    go_cut [38] from 11 to 37 (fun c wx => c = .bool (B5 s l.length) ∧ wx.heap[w.heap.size]? = some (.cells (strow s) 38 (0, 0)) ∧ wx.heap[g1]? = some (.cells (irow .u8 (zr 32)) 23 (0, 0)) ∧ Below w.heap.size w wx)
    case first =>
      have hB : Hid (B5 s l.length = (decide ((l.length : Int) > s.cs) || (!s.ho && !decide (s.opr = zr 32 ∧ s.opu = zr 32)) || (s.ho && !ipr s.opr s.opu))) := hide rfl
      have c_cs : World.cell? _ ⟨w.heap.size, 2, none⟩ = some (.int .i64 s.cs) := (cell_of_row _ _ _ _ _ _ R0).trans (st_cs hs [])
      have c_ho : World.cell? _ ⟨w.heap.size, 131, none⟩ = some (.bool s.ho) := (cell_of_row _ _ _ _ _ _ R0).trans (st_ho hs [])
      generalize s.ho = b_ho at *
      have hlv := (hl.keep hw).form
      obtain ⟨ao, cap, hsp⟩ := hlv
      have c_sp : World.cell? _ ⟨w.heap.size, 331, none⟩ = some s.sp := (cell_of_row _ _ _ _ _ _ R0).trans (st_sp hs [])
      rw [hsp] at c_sp
      clear hsp
      have e_p := fun W => eq_pair s.opr s.opu (zr 32) (zr 32) hs.opr hs.opu (zr_len 32) (zr_len 32) W
      generalize decide (s.opr = zr 32 ∧ s.opu = zr 32) = d_p at *
      have q_l : ∃ d_l, decide ((l.length : Int) > s.cs) = d_l := ⟨_, rfl⟩
      obtain ⟨d_l, q_l⟩ := q_l
      rw [q_l] at hB
      cases d_l
      · cases b_ho
        · cases d_p
          · repeat ((fail_if_success (refine wpList_load_part rfl 25 _ rfl (w.heap.size) 35 rfl 38 (strow s) (0, 0) (prow s.opr s.opu) _ R0 (st_own hs _) Tryd.underlying25 rfl (infoPr hs.opr hs.opu) ?_)); first | go_skip | go_step)
            refine wpList_load_part rfl 25 _ rfl (w.heap.size) 35 rfl 38 (strow s) (0, 0) (prow s.opr s.opu) _ R0 (st_own hs _) Tryd.underlying25 rfl (infoPr hs.opr hs.opu) ?_
            repeat ((fail_if_success (refine wpList_build_want rfl 25 _ rfl [] rfl (prow (zr 32) (zr 32)) builtZp ?_)); first | go_skip | go_step)
            refine wpList_build_want rfl 25 _ rfl [] rfl (prow (zr 32) (zr 32)) builtZp ?_
            repeat (first | go_skip | go_step)
            go_meet
            case rel => exact ⟨by rw [hB.out]; rfl, R0, R1, hw⟩
          · repeat ((fail_if_success (refine wpList_load_part rfl 25 _ rfl (w.heap.size) 35 rfl 38 (strow s) (0, 0) (prow s.opr s.opu) _ R0 (st_own hs _) Tryd.underlying25 rfl (infoPr hs.opr hs.opu) ?_)); first | go_skip | go_step)
            refine wpList_load_part rfl 25 _ rfl (w.heap.size) 35 rfl 38 (strow s) (0, 0) (prow s.opr s.opu) _ R0 (st_own hs _) Tryd.underlying25 rfl (infoPr hs.opr hs.opu) ?_
            repeat ((fail_if_success (refine wpList_build_want rfl 25 _ rfl [] rfl (prow (zr 32) (zr 32)) builtZp ?_)); first | go_skip | go_step)
            refine wpList_build_want rfl 25 _ rfl [] rfl (prow (zr 32) (zr 32)) builtZp ?_
            repeat (first | go_skip | go_step)
            go_meet
            case rel => exact ⟨by rw [hB.out]; rfl, R0, R1, hw⟩
        · have cI := r_isPair ha hs.opu w2
          generalize ipr s.opr s.opu = b_ip at *
          go_wp2_with (first | (refine wpList_load_part rfl 25 _ rfl (w.heap.size) 35 rfl 38 (strow s) (0, 0) (prow s.opr s.opu) _ R0 (st_own hs _) Tryd.underlying25 rfl (infoPr hs.opr hs.opu) ?_) | (refine wpList_build_want rfl 25 _ rfl [] rfl (prow (zr 32) (zr 32)) builtZp ?_) | fail)
          refine cI.mono ?_
          rintro e_ w3 ⟨rfl, hb⟩
          replace R0 := keep hb R0
          replace R1 := keep hb R1
          replace hw := Below.after hw hb
          clear hb cI
          cases b_ip
          · go_wp2_with (fail)
            go_meet
            case rel => exact ⟨by rw [hB.out]; rfl, R0, R1, hw⟩
          · go_wp2_with (fail)
            go_meet
            case rel => exact ⟨by rw [hB.out]; rfl, R0, R1, hw⟩
      · repeat (first | go_skip | go_step)
        go_meet
        case rel => exact ⟨by rw [hB.out]; rfl, R0, R1, hw⟩
    case rest =>
      obtain ⟨b5, h5⟩ : ∃ b_, B5 s l.length = b_ := ⟨_, rfl⟩
      rw [h5] at hcut
      replace h5 := hide h5
      obtain ⟨rfl, R0, R1, hw⟩ := hcut
      generalize wc = w5 at *
      cases b5
      · go_upto_region 7 with fail
        go_cut [73] from 39 to 72 (fun c wx => c = .bool (B7 s) ∧ wx.heap[w.heap.size]? = some (.cells (strow s) 38 (0, 0)) ∧ wx.heap[g1]? = some (.cells (irow .u8 (zr 32)) 23 (0, 0)) ∧ Below w.heap.size w wx)
        case first =>
          have hB : Hid (B7 s = ((!s.hp && (!decide (s.peer = zr 32) || s.tu || s.hs || s.hr)) || (s.hp && !s.tu && !s.hs))) := hide rfl
          have c_hp : World.cell? _ ⟨w.heap.size, 132, none⟩ = some (.bool s.hp) := (cell_of_row _ _ _ _ _ _ R0).trans (st_hp hs [])
          have c_tu : World.cell? _ ⟨w.heap.size, 133, none⟩ = some (.bool s.tu) := (cell_of_row _ _ _ _ _ _ R0).trans (st_tu hs [])
          have c_hs : World.cell? _ ⟨w.heap.size, 232, none⟩ = some (.bool s.hs) := (cell_of_row _ _ _ _ _ _ R0).trans (st_hs hs [])
          have c_hr : World.cell? _ ⟨w.heap.size, 330, none⟩ = some (.bool s.hr) := (cell_of_row _ _ _ _ _ _ R0).trans (st_hr hs [])
          generalize s.hp = b_hp at *
          generalize s.tu = b_tu at *
          generalize s.hs = b_hs at *
          generalize s.hr = b_hr at *
          have e_peer := fun W => eq_k s.peer (zr 32) hs.peer (zr_len 32) W
          generalize decide (s.peer = zr 32) = d_peer at *
          cases b_hp
          · cases d_peer
            · repeat ((fail_if_success (refine wpList_load_part rfl 23 _ rfl (w.heap.size) 99 rfl 38 (strow s) (0, 0) (irow .u8 s.peer) _ R0 (st_peer hs _) Tryd.underlying23 rfl (infok8 _ hs.peer) ?_)); first | go_skip | go_step)
              refine wpList_load_part rfl 23 _ rfl (w.heap.size) 99 rfl 38 (strow s) (0, 0) (irow .u8 s.peer) _ R0 (st_peer hs _) Tryd.underlying23 rfl (infok8 _ hs.peer) ?_
              repeat ((fail_if_success (refine wpList_load_want rfl 23 _ rfl g1 rfl 23 (irow .u8 (zr 32)) (0, 0) _ R1 Tryd.underlying23 rfl (infok8 _ (zr_len 32)) ?_)); first | go_skip | go_step)
              refine wpList_load_want rfl 23 _ rfl g1 rfl 23 (irow .u8 (zr 32)) (0, 0) _ R1 Tryd.underlying23 rfl (infok8 _ (zr_len 32)) ?_
              repeat (first | go_skip | go_step)
              go_meet
              case rel => exact ⟨by rw [hB.out]; rfl, R0, R1, hw⟩
            · cases b_tu
              · cases b_hs
                · cases b_hr
                  · repeat ((fail_if_success (refine wpList_load_part rfl 23 _ rfl (w.heap.size) 99 rfl 38 (strow s) (0, 0) (irow .u8 s.peer) _ R0 (st_peer hs _) Tryd.underlying23 rfl (infok8 _ hs.peer) ?_)); first | go_skip | go_step)
                    refine wpList_load_part rfl 23 _ rfl (w.heap.size) 99 rfl 38 (strow s) (0, 0) (irow .u8 s.peer) _ R0 (st_peer hs _) Tryd.underlying23 rfl (infok8 _ hs.peer) ?_
                    repeat ((fail_if_success (refine wpList_load_want rfl 23 _ rfl g1 rfl 23 (irow .u8 (zr 32)) (0, 0) _ R1 Tryd.underlying23 rfl (infok8 _ (zr_len 32)) ?_)); first | go_skip | go_step)
                    refine wpList_load_want rfl 23 _ rfl g1 rfl 23 (irow .u8 (zr 32)) (0, 0) _ R1 Tryd.underlying23 rfl (infok8 _ (zr_len 32)) ?_
                    repeat (first | go_skip | go_step)
                    go_meet
                    case rel => exact ⟨by rw [hB.out]; rfl, R0, R1, hw⟩
                  · repeat ((fail_if_success (refine wpList_load_part rfl 23 _ rfl (w.heap.size) 99 rfl 38 (strow s) (0, 0) (irow .u8 s.peer) _ R0 (st_peer hs _) Tryd.underlying23 rfl (infok8 _ hs.peer) ?_)); first | go_skip | go_step)
                    refine wpList_load_part rfl 23 _ rfl (w.heap.size) 99 rfl 38 (strow s) (0, 0) (irow .u8 s.peer) _ R0 (st_peer hs _) Tryd.underlying23 rfl (infok8 _ hs.peer) ?_
                    repeat ((fail_if_success (refine wpList_load_want rfl 23 _ rfl g1 rfl 23 (irow .u8 (zr 32)) (0, 0) _ R1 Tryd.underlying23 rfl (infok8 _ (zr_len 32)) ?_)); first | go_skip | go_step)
                    refine wpList_load_want rfl 23 _ rfl g1 rfl 23 (irow .u8 (zr 32)) (0, 0) _ R1 Tryd.underlying23 rfl (infok8 _ (zr_len 32)) ?_
                    repeat (first | go_skip | go_step)
                    go_meet
                    case rel => exact ⟨by rw [hB.out]; rfl, R0, R1, hw⟩
                · repeat ((fail_if_success (refine wpList_load_part rfl 23 _ rfl (w.heap.size) 99 rfl 38 (strow s) (0, 0) (irow .u8 s.peer) _ R0 (st_peer hs _) Tryd.underlying23 rfl (infok8 _ hs.peer) ?_)); first | go_skip | go_step)
                  refine wpList_load_part rfl 23 _ rfl (w.heap.size) 99 rfl 38 (strow s) (0, 0) (irow .u8 s.peer) _ R0 (st_peer hs _) Tryd.underlying23 rfl (infok8 _ hs.peer) ?_
                  repeat ((fail_if_success (refine wpList_load_want rfl 23 _ rfl g1 rfl 23 (irow .u8 (zr 32)) (0, 0) _ R1 Tryd.underlying23 rfl (infok8 _ (zr_len 32)) ?_)); first | go_skip | go_step)
                  refine wpList_load_want rfl 23 _ rfl g1 rfl 23 (irow .u8 (zr 32)) (0, 0) _ R1 Tryd.underlying23 rfl (infok8 _ (zr_len 32)) ?_
                  repeat (first | go_skip | go_step)
                  go_meet
                  case rel => exact ⟨by rw [hB.out]; rfl, R0, R1, hw⟩
              · repeat ((fail_if_success (refine wpList_load_part rfl 23 _ rfl (w.heap.size) 99 rfl 38 (strow s) (0, 0) (irow .u8 s.peer) _ R0 (st_peer hs _) Tryd.underlying23 rfl (infok8 _ hs.peer) ?_)); first | go_skip | go_step)
                refine wpList_load_part rfl 23 _ rfl (w.heap.size) 99 rfl 38 (strow s) (0, 0) (irow .u8 s.peer) _ R0 (st_peer hs _) Tryd.underlying23 rfl (infok8 _ hs.peer) ?_
                repeat ((fail_if_success (refine wpList_load_want rfl 23 _ rfl g1 rfl 23 (irow .u8 (zr 32)) (0, 0) _ R1 Tryd.underlying23 rfl (infok8 _ (zr_len 32)) ?_)); first | go_skip | go_step)
                refine wpList_load_want rfl 23 _ rfl g1 rfl 23 (irow .u8 (zr 32)) (0, 0) _ R1 Tryd.underlying23 rfl (infok8 _ (zr_len 32)) ?_
                repeat (first | go_skip | go_step)
                go_meet
                case rel => exact ⟨by rw [hB.out]; rfl, R0, R1, hw⟩
          · cases b_tu
            · cases b_hs
              · repeat (first | go_skip | go_step)
                go_meet
                case rel => exact ⟨by rw [hB.out]; rfl, R0, R1, hw⟩
              · repeat (first | go_skip | go_step)
                go_meet
                case rel => exact ⟨by rw [hB.out]; rfl, R0, R1, hw⟩
            · repeat (first | go_skip | go_step)
              go_meet
              case rel => exact ⟨by rw [hB.out]; rfl, R0, R1, hw⟩
        case rest =>
          obtain ⟨b7, h7⟩ : ∃ b_, B7 s = b_ := ⟨_, rfl⟩
          rw [h7] at hcut
          replace h7 := hide h7
          obtain ⟨rfl, R0, R1, hw⟩ := hcut
          generalize wc = w7 at *
          cases b7
          · go_upto_region 9 with fail
            go_cut [84] from 74 to 83 (fun c wx => c = .bool (B9 s) ∧ wx.heap[w.heap.size]? = some (.cells (strow s) 38 (0, 0)) ∧ wx.heap[g1]? = some (.cells (irow .u8 (zr 32)) 23 (0, 0)) ∧ Below w.heap.size w wx)
            case first =>
              have hB : Hid (B9 s = ((s.hs || s.hr) && !s.ho)) := hide rfl
              have c_hs : World.cell? _ ⟨w.heap.size, 232, none⟩ = some (.bool s.hs) := (cell_of_row _ _ _ _ _ _ R0).trans (st_hs hs [])
              have c_hr : World.cell? _ ⟨w.heap.size, 330, none⟩ = some (.bool s.hr) := (cell_of_row _ _ _ _ _ _ R0).trans (st_hr hs [])
              have c_ho : World.cell? _ ⟨w.heap.size, 131, none⟩ = some (.bool s.ho) := (cell_of_row _ _ _ _ _ _ R0).trans (st_ho hs [])
              generalize s.hs = b_hs at *
              generalize s.hr = b_hr at *
              generalize s.ho = b_ho at *
              cases b_hs
              · cases b_hr
                · repeat (first | go_skip | go_step)
                  go_meet
                  case rel => exact ⟨by rw [hB.out]; rfl, R0, R1, hw⟩
                · cases b_ho
                  · repeat (first | go_skip | go_step)
                    go_meet
                    case rel => exact ⟨by rw [hB.out]; rfl, R0, R1, hw⟩
                  · repeat (first | go_skip | go_step)
                    go_meet
                    case rel => exact ⟨by rw [hB.out]; rfl, R0, R1, hw⟩
              · cases b_ho
                · repeat (first | go_skip | go_step)
                  go_meet
                  case rel => exact ⟨by rw [hB.out]; rfl, R0, R1, hw⟩
                · repeat (first | go_skip | go_step)
                  go_meet
                  case rel => exact ⟨by rw [hB.out]; rfl, R0, R1, hw⟩
            case rest =>
              obtain ⟨b9, h9⟩ : ∃ b_, B9 s = b_ := ⟨_, rfl⟩
              rw [h9] at hcut
              replace h9 := hide h9
              obtain ⟨rfl, R0, R1, hw⟩ := hcut
              generalize wc = w9 at *
              cases b9
              · go_upto_region 11 with fail
                go_cut [109] from 85 to 108 (fun c wx => c = .bool (B11 s) ∧ wx.heap[w.heap.size]? = some (.cells (strow s) 38 (0, 0)) ∧ wx.heap[g1]? = some (.cells (irow .u8 (zr 32)) 23 (0, 0)) ∧ Below w.heap.size w wx)
                case first =>
                  have hB : Hid (B11 s = (!s.hs && (!decide (s.snd = zr 32) || !decide (s.shd = zr 32) || (s.sn != 0) || (s.pv != 0)))) := hide rfl
                  have c_hs : World.cell? _ ⟨w.heap.size, 232, none⟩ = some (.bool s.hs) := (cell_of_row _ _ _ _ _ _ R0).trans (st_hs hs [])
                  have c_sn : World.cell? _ ⟨w.heap.size, 230, none⟩ = some (.int .u32 s.sn) := (cell_of_row _ _ _ _ _ _ R0).trans (st_sn hs [])
                  have c_pv : World.cell? _ ⟨w.heap.size, 231, none⟩ = some (.int .u32 s.pv) := (cell_of_row _ _ _ _ _ _ R0).trans (st_pv hs [])
                  generalize s.hs = b_hs at *
                  have e_snd := fun W => eq_k s.snd (zr 32) hs.snd (zr_len 32) W
                  generalize decide (s.snd = zr 32) = d_snd at *
                  have e_shd := fun W => eq_k s.shd (zr 32) hs.shd (zr_len 32) W
                  generalize decide (s.shd = zr 32) = d_shd at *
                  have q_sn : ∃ d_sn, (s.sn != 0) = d_sn := ⟨_, rfl⟩
                  obtain ⟨d_sn, q_sn⟩ := q_sn
                  rw [q_sn] at hB
                  have q_pv : ∃ d_pv, (s.pv != 0) = d_pv := ⟨_, rfl⟩
                  obtain ⟨d_pv, q_pv⟩ := q_pv
                  rw [q_pv] at hB
                  cases b_hs
                  · cases d_snd
                    · repeat ((fail_if_success (refine wpList_load_part rfl 23 _ rfl (w.heap.size) 134 rfl 38 (strow s) (0, 0) (irow .u8 s.snd) _ R0 (st_snd hs _) Tryd.underlying23 rfl (infok8 _ hs.snd) ?_)); first | go_skip | go_step)
                      refine wpList_load_part rfl 23 _ rfl (w.heap.size) 134 rfl 38 (strow s) (0, 0) (irow .u8 s.snd) _ R0 (st_snd hs _) Tryd.underlying23 rfl (infok8 _ hs.snd) ?_
                      repeat ((fail_if_success (refine wpList_load_want rfl 23 _ rfl g1 rfl 23 (irow .u8 (zr 32)) (0, 0) _ R1 Tryd.underlying23 rfl (infok8 _ (zr_len 32)) ?_)); first | go_skip | go_step)
                      refine wpList_load_want rfl 23 _ rfl g1 rfl 23 (irow .u8 (zr 32)) (0, 0) _ R1 Tryd.underlying23 rfl (infok8 _ (zr_len 32)) ?_
                      repeat (first | go_skip | go_step)
                      go_meet
                      case rel => exact ⟨by rw [hB.out]; rfl, R0, R1, hw⟩
                    · cases d_shd
                      · repeat ((fail_if_success (refine wpList_load_part rfl 23 _ rfl (w.heap.size) 134 rfl 38 (strow s) (0, 0) (irow .u8 s.snd) _ R0 (st_snd hs _) Tryd.underlying23 rfl (infok8 _ hs.snd) ?_)); first | go_skip | go_step)
                        refine wpList_load_part rfl 23 _ rfl (w.heap.size) 134 rfl 38 (strow s) (0, 0) (irow .u8 s.snd) _ R0 (st_snd hs _) Tryd.underlying23 rfl (infok8 _ hs.snd) ?_
                        repeat ((fail_if_success (refine wpList_load_want rfl 23 _ rfl g1 rfl 23 (irow .u8 (zr 32)) (0, 0) _ R1 Tryd.underlying23 rfl (infok8 _ (zr_len 32)) ?_)); first | go_skip | go_step)
                        refine wpList_load_want rfl 23 _ rfl g1 rfl 23 (irow .u8 (zr 32)) (0, 0) _ R1 Tryd.underlying23 rfl (infok8 _ (zr_len 32)) ?_
                        repeat ((fail_if_success (refine wpList_load_part rfl 23 _ rfl (w.heap.size) 166 rfl 38 (strow s) (0, 0) (irow .u8 s.shd) _ R0 (st_shd hs _) Tryd.underlying23 rfl (infok8 _ hs.shd) ?_)); first | go_skip | go_step)
                        refine wpList_load_part rfl 23 _ rfl (w.heap.size) 166 rfl 38 (strow s) (0, 0) (irow .u8 s.shd) _ R0 (st_shd hs _) Tryd.underlying23 rfl (infok8 _ hs.shd) ?_
                        repeat ((fail_if_success (refine wpList_load_want rfl 23 _ rfl g1 rfl 23 (irow .u8 (zr 32)) (0, 0) _ R1 Tryd.underlying23 rfl (infok8 _ (zr_len 32)) ?_)); first | go_skip | go_step)
                        refine wpList_load_want rfl 23 _ rfl g1 rfl 23 (irow .u8 (zr 32)) (0, 0) _ R1 Tryd.underlying23 rfl (infok8 _ (zr_len 32)) ?_
                        repeat (first | go_skip | go_step)
                        go_meet
                        case rel => exact ⟨by rw [hB.out]; rfl, R0, R1, hw⟩
                      · cases d_sn
                        · cases d_pv
                          · repeat ((fail_if_success (refine wpList_load_part rfl 23 _ rfl (w.heap.size) 134 rfl 38 (strow s) (0, 0) (irow .u8 s.snd) _ R0 (st_snd hs _) Tryd.underlying23 rfl (infok8 _ hs.snd) ?_)); first | go_skip | go_step)
                            refine wpList_load_part rfl 23 _ rfl (w.heap.size) 134 rfl 38 (strow s) (0, 0) (irow .u8 s.snd) _ R0 (st_snd hs _) Tryd.underlying23 rfl (infok8 _ hs.snd) ?_
                            repeat ((fail_if_success (refine wpList_load_want rfl 23 _ rfl g1 rfl 23 (irow .u8 (zr 32)) (0, 0) _ R1 Tryd.underlying23 rfl (infok8 _ (zr_len 32)) ?_)); first | go_skip | go_step)
                            refine wpList_load_want rfl 23 _ rfl g1 rfl 23 (irow .u8 (zr 32)) (0, 0) _ R1 Tryd.underlying23 rfl (infok8 _ (zr_len 32)) ?_
                            repeat ((fail_if_success (refine wpList_load_part rfl 23 _ rfl (w.heap.size) 166 rfl 38 (strow s) (0, 0) (irow .u8 s.shd) _ R0 (st_shd hs _) Tryd.underlying23 rfl (infok8 _ hs.shd) ?_)); first | go_skip | go_step)
                            refine wpList_load_part rfl 23 _ rfl (w.heap.size) 166 rfl 38 (strow s) (0, 0) (irow .u8 s.shd) _ R0 (st_shd hs _) Tryd.underlying23 rfl (infok8 _ hs.shd) ?_
                            repeat ((fail_if_success (refine wpList_load_want rfl 23 _ rfl g1 rfl 23 (irow .u8 (zr 32)) (0, 0) _ R1 Tryd.underlying23 rfl (infok8 _ (zr_len 32)) ?_)); first | go_skip | go_step)
                            refine wpList_load_want rfl 23 _ rfl g1 rfl 23 (irow .u8 (zr 32)) (0, 0) _ R1 Tryd.underlying23 rfl (infok8 _ (zr_len 32)) ?_
                            repeat (first | go_skip | go_step)
                            go_meet
                            case rel => exact ⟨by rw [hB.out]; rfl, R0, R1, hw⟩
                          · repeat ((fail_if_success (refine wpList_load_part rfl 23 _ rfl (w.heap.size) 134 rfl 38 (strow s) (0, 0) (irow .u8 s.snd) _ R0 (st_snd hs _) Tryd.underlying23 rfl (infok8 _ hs.snd) ?_)); first | go_skip | go_step)
                            refine wpList_load_part rfl 23 _ rfl (w.heap.size) 134 rfl 38 (strow s) (0, 0) (irow .u8 s.snd) _ R0 (st_snd hs _) Tryd.underlying23 rfl (infok8 _ hs.snd) ?_
                            repeat ((fail_if_success (refine wpList_load_want rfl 23 _ rfl g1 rfl 23 (irow .u8 (zr 32)) (0, 0) _ R1 Tryd.underlying23 rfl (infok8 _ (zr_len 32)) ?_)); first | go_skip | go_step)
                            refine wpList_load_want rfl 23 _ rfl g1 rfl 23 (irow .u8 (zr 32)) (0, 0) _ R1 Tryd.underlying23 rfl (infok8 _ (zr_len 32)) ?_
                            repeat ((fail_if_success (refine wpList_load_part rfl 23 _ rfl (w.heap.size) 166 rfl 38 (strow s) (0, 0) (irow .u8 s.shd) _ R0 (st_shd hs _) Tryd.underlying23 rfl (infok8 _ hs.shd) ?_)); first | go_skip | go_step)
                            refine wpList_load_part rfl 23 _ rfl (w.heap.size) 166 rfl 38 (strow s) (0, 0) (irow .u8 s.shd) _ R0 (st_shd hs _) Tryd.underlying23 rfl (infok8 _ hs.shd) ?_
                            repeat ((fail_if_success (refine wpList_load_want rfl 23 _ rfl g1 rfl 23 (irow .u8 (zr 32)) (0, 0) _ R1 Tryd.underlying23 rfl (infok8 _ (zr_len 32)) ?_)); first | go_skip | go_step)
                            refine wpList_load_want rfl 23 _ rfl g1 rfl 23 (irow .u8 (zr 32)) (0, 0) _ R1 Tryd.underlying23 rfl (infok8 _ (zr_len 32)) ?_
                            repeat (first | go_skip | go_step)
                            go_meet
                            case rel => exact ⟨by rw [hB.out]; rfl, R0, R1, hw⟩
                        · repeat ((fail_if_success (refine wpList_load_part rfl 23 _ rfl (w.heap.size) 134 rfl 38 (strow s) (0, 0) (irow .u8 s.snd) _ R0 (st_snd hs _) Tryd.underlying23 rfl (infok8 _ hs.snd) ?_)); first | go_skip | go_step)
                          refine wpList_load_part rfl 23 _ rfl (w.heap.size) 134 rfl 38 (strow s) (0, 0) (irow .u8 s.snd) _ R0 (st_snd hs _) Tryd.underlying23 rfl (infok8 _ hs.snd) ?_
                          repeat ((fail_if_success (refine wpList_load_want rfl 23 _ rfl g1 rfl 23 (irow .u8 (zr 32)) (0, 0) _ R1 Tryd.underlying23 rfl (infok8 _ (zr_len 32)) ?_)); first | go_skip | go_step)
                          refine wpList_load_want rfl 23 _ rfl g1 rfl 23 (irow .u8 (zr 32)) (0, 0) _ R1 Tryd.underlying23 rfl (infok8 _ (zr_len 32)) ?_
                          repeat ((fail_if_success (refine wpList_load_part rfl 23 _ rfl (w.heap.size) 166 rfl 38 (strow s) (0, 0) (irow .u8 s.shd) _ R0 (st_shd hs _) Tryd.underlying23 rfl (infok8 _ hs.shd) ?_)); first | go_skip | go_step)
                          refine wpList_load_part rfl 23 _ rfl (w.heap.size) 166 rfl 38 (strow s) (0, 0) (irow .u8 s.shd) _ R0 (st_shd hs _) Tryd.underlying23 rfl (infok8 _ hs.shd) ?_
                          repeat ((fail_if_success (refine wpList_load_want rfl 23 _ rfl g1 rfl 23 (irow .u8 (zr 32)) (0, 0) _ R1 Tryd.underlying23 rfl (infok8 _ (zr_len 32)) ?_)); first | go_skip | go_step)
                          refine wpList_load_want rfl 23 _ rfl g1 rfl 23 (irow .u8 (zr 32)) (0, 0) _ R1 Tryd.underlying23 rfl (infok8 _ (zr_len 32)) ?_
                          repeat (first | go_skip | go_step)
                          go_meet
                          case rel => exact ⟨by rw [hB.out]; rfl, R0, R1, hw⟩
                  · repeat (first | go_skip | go_step)
                    go_meet
                    case rel => exact ⟨by rw [hB.out]; rfl, R0, R1, hw⟩
                case rest =>
                  obtain ⟨b11, h11⟩ : ∃ b_, B11 s = b_ := ⟨_, rfl⟩
                  rw [h11] at hcut
                  replace h11 := hide h11
                  obtain ⟨rfl, R0, R1, hw⟩ := hcut
                  generalize wc = w11 at *
                  cases b11
                  · go_upto_region 13 with fail
                    go_cut [129] from 110 to 128 (fun c wx => c = .bool (B13 s) ∧ wx.heap[w.heap.size]? = some (.cells (strow s) 38 (0, 0)) ∧ wx.heap[g1]? = some (.cells (irow .u8 (zr 32)) 23 (0, 0)) ∧ Below w.heap.size w wx)
                    case first =>
                      have hB : Hid (B13 s = (!s.hr && (!decide (s.rcv = zr 32) || !decide (s.rhd = zr 32) || (s.rn != 0)))) := hide rfl
                      have c_hr : World.cell? _ ⟨w.heap.size, 330, none⟩ = some (.bool s.hr) := (cell_of_row _ _ _ _ _ _ R0).trans (st_hr hs [])
                      have c_rn : World.cell? _ ⟨w.heap.size, 329, none⟩ = some (.int .u32 s.rn) := (cell_of_row _ _ _ _ _ _ R0).trans (st_rn hs [])
                      generalize s.hr = b_hr at *
                      have e_rcv := fun W => eq_k s.rcv (zr 32) hs.rcv (zr_len 32) W
                      generalize decide (s.rcv = zr 32) = d_rcv at *
                      have e_rhd := fun W => eq_k s.rhd (zr 32) hs.rhd (zr_len 32) W
                      generalize decide (s.rhd = zr 32) = d_rhd at *
                      have q_rn : ∃ d_rn, (s.rn != 0) = d_rn := ⟨_, rfl⟩
                      obtain ⟨d_rn, q_rn⟩ := q_rn
                      rw [q_rn] at hB
                      cases b_hr
                      · cases d_rcv
                        · repeat ((fail_if_success (refine wpList_load_part rfl 23 _ rfl (w.heap.size) 233 rfl 38 (strow s) (0, 0) (irow .u8 s.rcv) _ R0 (st_rcv hs _) Tryd.underlying23 rfl (infok8 _ hs.rcv) ?_)); first | go_skip | go_step)
                          refine wpList_load_part rfl 23 _ rfl (w.heap.size) 233 rfl 38 (strow s) (0, 0) (irow .u8 s.rcv) _ R0 (st_rcv hs _) Tryd.underlying23 rfl (infok8 _ hs.rcv) ?_
                          repeat ((fail_if_success (refine wpList_load_want rfl 23 _ rfl g1 rfl 23 (irow .u8 (zr 32)) (0, 0) _ R1 Tryd.underlying23 rfl (infok8 _ (zr_len 32)) ?_)); first | go_skip | go_step)
                          refine wpList_load_want rfl 23 _ rfl g1 rfl 23 (irow .u8 (zr 32)) (0, 0) _ R1 Tryd.underlying23 rfl (infok8 _ (zr_len 32)) ?_
                          repeat (first | go_skip | go_step)
                          go_meet
                          case rel => exact ⟨by rw [hB.out]; rfl, R0, R1, hw⟩
                        · cases d_rhd
                          · repeat ((fail_if_success (refine wpList_load_part rfl 23 _ rfl (w.heap.size) 233 rfl 38 (strow s) (0, 0) (irow .u8 s.rcv) _ R0 (st_rcv hs _) Tryd.underlying23 rfl (infok8 _ hs.rcv) ?_)); first | go_skip | go_step)
                            refine wpList_load_part rfl 23 _ rfl (w.heap.size) 233 rfl 38 (strow s) (0, 0) (irow .u8 s.rcv) _ R0 (st_rcv hs _) Tryd.underlying23 rfl (infok8 _ hs.rcv) ?_
                            repeat ((fail_if_success (refine wpList_load_want rfl 23 _ rfl g1 rfl 23 (irow .u8 (zr 32)) (0, 0) _ R1 Tryd.underlying23 rfl (infok8 _ (zr_len 32)) ?_)); first | go_skip | go_step)
                            refine wpList_load_want rfl 23 _ rfl g1 rfl 23 (irow .u8 (zr 32)) (0, 0) _ R1 Tryd.underlying23 rfl (infok8 _ (zr_len 32)) ?_
                            repeat ((fail_if_success (refine wpList_load_part rfl 23 _ rfl (w.heap.size) 265 rfl 38 (strow s) (0, 0) (irow .u8 s.rhd) _ R0 (st_rhd hs _) Tryd.underlying23 rfl (infok8 _ hs.rhd) ?_)); first | go_skip | go_step)
                            refine wpList_load_part rfl 23 _ rfl (w.heap.size) 265 rfl 38 (strow s) (0, 0) (irow .u8 s.rhd) _ R0 (st_rhd hs _) Tryd.underlying23 rfl (infok8 _ hs.rhd) ?_
                            repeat ((fail_if_success (refine wpList_load_want rfl 23 _ rfl g1 rfl 23 (irow .u8 (zr 32)) (0, 0) _ R1 Tryd.underlying23 rfl (infok8 _ (zr_len 32)) ?_)); first | go_skip | go_step)
                            refine wpList_load_want rfl 23 _ rfl g1 rfl 23 (irow .u8 (zr 32)) (0, 0) _ R1 Tryd.underlying23 rfl (infok8 _ (zr_len 32)) ?_
                            repeat (first | go_skip | go_step)
                            go_meet
                            case rel => exact ⟨by rw [hB.out]; rfl, R0, R1, hw⟩
                          · cases d_rn
                            · repeat ((fail_if_success (refine wpList_load_part rfl 23 _ rfl (w.heap.size) 233 rfl 38 (strow s) (0, 0) (irow .u8 s.rcv) _ R0 (st_rcv hs _) Tryd.underlying23 rfl (infok8 _ hs.rcv) ?_)); first | go_skip | go_step)
                              refine wpList_load_part rfl 23 _ rfl (w.heap.size) 233 rfl 38 (strow s) (0, 0) (irow .u8 s.rcv) _ R0 (st_rcv hs _) Tryd.underlying23 rfl (infok8 _ hs.rcv) ?_
                              repeat ((fail_if_success (refine wpList_load_want rfl 23 _ rfl g1 rfl 23 (irow .u8 (zr 32)) (0, 0) _ R1 Tryd.underlying23 rfl (infok8 _ (zr_len 32)) ?_)); first | go_skip | go_step)
                              refine wpList_load_want rfl 23 _ rfl g1 rfl 23 (irow .u8 (zr 32)) (0, 0) _ R1 Tryd.underlying23 rfl (infok8 _ (zr_len 32)) ?_
                              repeat ((fail_if_success (refine wpList_load_part rfl 23 _ rfl (w.heap.size) 265 rfl 38 (strow s) (0, 0) (irow .u8 s.rhd) _ R0 (st_rhd hs _) Tryd.underlying23 rfl (infok8 _ hs.rhd) ?_)); first | go_skip | go_step)
                              refine wpList_load_part rfl 23 _ rfl (w.heap.size) 265 rfl 38 (strow s) (0, 0) (irow .u8 s.rhd) _ R0 (st_rhd hs _) Tryd.underlying23 rfl (infok8 _ hs.rhd) ?_
                              repeat ((fail_if_success (refine wpList_load_want rfl 23 _ rfl g1 rfl 23 (irow .u8 (zr 32)) (0, 0) _ R1 Tryd.underlying23 rfl (infok8 _ (zr_len 32)) ?_)); first | go_skip | go_step)
                              refine wpList_load_want rfl 23 _ rfl g1 rfl 23 (irow .u8 (zr 32)) (0, 0) _ R1 Tryd.underlying23 rfl (infok8 _ (zr_len 32)) ?_
                              repeat (first | go_skip | go_step)
                              go_meet
                              case rel => exact ⟨by rw [hB.out]; rfl, R0, R1, hw⟩
                            · repeat ((fail_if_success (refine wpList_load_part rfl 23 _ rfl (w.heap.size) 233 rfl 38 (strow s) (0, 0) (irow .u8 s.rcv) _ R0 (st_rcv hs _) Tryd.underlying23 rfl (infok8 _ hs.rcv) ?_)); first | go_skip | go_step)
                              refine wpList_load_part rfl 23 _ rfl (w.heap.size) 233 rfl 38 (strow s) (0, 0) (irow .u8 s.rcv) _ R0 (st_rcv hs _) Tryd.underlying23 rfl (infok8 _ hs.rcv) ?_
                              repeat ((fail_if_success (refine wpList_load_want rfl 23 _ rfl g1 rfl 23 (irow .u8 (zr 32)) (0, 0) _ R1 Tryd.underlying23 rfl (infok8 _ (zr_len 32)) ?_)); first | go_skip | go_step)
                              refine wpList_load_want rfl 23 _ rfl g1 rfl 23 (irow .u8 (zr 32)) (0, 0) _ R1 Tryd.underlying23 rfl (infok8 _ (zr_len 32)) ?_
                              repeat ((fail_if_success (refine wpList_load_part rfl 23 _ rfl (w.heap.size) 265 rfl 38 (strow s) (0, 0) (irow .u8 s.rhd) _ R0 (st_rhd hs _) Tryd.underlying23 rfl (infok8 _ hs.rhd) ?_)); first | go_skip | go_step)
                              refine wpList_load_part rfl 23 _ rfl (w.heap.size) 265 rfl 38 (strow s) (0, 0) (irow .u8 s.rhd) _ R0 (st_rhd hs _) Tryd.underlying23 rfl (infok8 _ hs.rhd) ?_
                              repeat ((fail_if_success (refine wpList_load_want rfl 23 _ rfl g1 rfl 23 (irow .u8 (zr 32)) (0, 0) _ R1 Tryd.underlying23 rfl (infok8 _ (zr_len 32)) ?_)); first | go_skip | go_step)
                              refine wpList_load_want rfl 23 _ rfl g1 rfl 23 (irow .u8 (zr 32)) (0, 0) _ R1 Tryd.underlying23 rfl (infok8 _ (zr_len 32)) ?_
                              repeat (first | go_skip | go_step)
                              go_meet
                              case rel => exact ⟨by rw [hB.out]; rfl, R0, R1, hw⟩
                      · repeat (first | go_skip | go_step)
                        go_meet
                        case rel => exact ⟨by rw [hB.out]; rfl, R0, R1, hw⟩
                    case rest =>
                      obtain ⟨b13, h13⟩ : ∃ b_, B13 s = b_ := ⟨_, rfl⟩
                      rw [h13] at hcut
                      replace h13 := hide h13
                      obtain ⟨rfl, R0, R1, hw⟩ := hcut
                      generalize wc = w13 at *
                      cases b13
                      · have hlv := (hl.keep hw).form
                        have hl2 := hl.keep hw
                        obtain ⟨ao, cap, hsp⟩ := hlv
                        have c_sp : World.cell? _ ⟨w.heap.size, 331, none⟩ = some s.sp := (cell_of_row _ _ _ _ _ _ R0).trans (st_sp hs [])
                        have cT := r_twice l _ _ hl2
                        rw [hsp] at c_sp cT
                        clear hsp
                        go_wp2_with (fail)
                        refine cT.mono ?_
                        rintro e_ w9 ⟨rfl, hb⟩
                        replace hw := Below.after hw hb
                        clear hb cT
                        obtain ⟨bt, ht⟩ : ∃ b_, mts [] l = b_ := ⟨_, rfl⟩
                        rw [ht]
                        replace ht := hide ht
                        cases bt
                        · go_wp2_with (fail)
                          go_ret
                          exact ⟨by rw [rk7 hE.out h5.out h7.out h9.out h11.out h13.out ht.out]; rfl, hw⟩
                        · go_wp2_with (fail)
                          go_ret
                          exact ⟨by rw [rk6 hE.out h5.out h7.out h9.out h11.out h13.out ht.out]; rfl, hw⟩
                      · go_wp2_with (fail)
                        go_ret
                        exact ⟨by rw [rk5 hE.out h5.out h7.out h9.out h11.out h13.out]; rfl, hw⟩
                  · go_wp2_with (fail)
                    go_ret
                    exact ⟨by rw [rk4 hE.out h5.out h7.out h9.out h11.out]; rfl, hw⟩
              · go_wp2_with (fail)
                go_ret
                exact ⟨by rw [rk3 hE.out h5.out h7.out h9.out]; rfl, hw⟩
          · go_wp2_with (fail)
            go_ret
            exact ⟨by rw [rk2 hE.out h5.out h7.out]; rfl, hw⟩
      · go_wp2_with (fail)
        go_ret
        exact ⟨by rw [rk1 hE.out h5.out]; rfl, hw⟩

  · have hd : (E != 0) = true := by simpa using h0
    have hk : Hid (rck s l = E) := hide (by rw [rk0 (by rw [hE.out]; exact h0), hE.out])
    clear h0
    go_wp2_with (fail)
    go_ret
    exact ⟨by rw [hk.out]; rfl, hw⟩

end Go.Proofs.YtjofbnilhkmpeaaDoor
