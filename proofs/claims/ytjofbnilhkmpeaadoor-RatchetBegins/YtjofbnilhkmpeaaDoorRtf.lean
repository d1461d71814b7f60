import Derived.Test.YtjofbnilhkmpeaaDoorProg
import Derived.WalkKit
import Derived.WalkSpells
import Derived.WalkLawsBesides
import Derived.Lib.QuietBelow
import Derived.BigQuiet
import Derived.OrdersHeld
import Derived.Deep.RegionHeld3
import Derived.OwnWalk
import Derived.Test.YtjofbnilhkmpeaaDoorKa
import Derived.Test.YtjofbnilhkmpeaaDoorRte
namespace Go.Proofs.YtjofbnilhkmpeaaDoor
set_option maxRecDepth 100000
open Go Go.RowKit Go.Sort Go.ChangeMaps Go.MapKept
attribute [local go_sem] setCell_drewN alloc_drewN

theorem cf_ok {v k c : Int} (h : cfE v k c = 0) : (v = 1 ∨ v = 2) ∧ 0 ≤ k ∧ k ≤ 1000 ∧ 0 ≤ c ∧ c ≤ 2000 := by
  unfold cfE at h
  split at h
  · cases h
  · split at h
    · cases h
    · omega
theorem cf_le {v k c : Int} : cfE v k c = 0 ∨ cfE v k c = 1 ∨ cfE v k c = 100 := by
  unfold cfE
  split
  · exact .inr (.inr rfl)
  · split
    · exact .inr (.inl rfl)
    · exact .inl rfl
def allB (s : Stt) (n : Nat) : Bool := B5 s n || B7 s || B9 s || B11 s || B13 s
theorem rck_all (s : Stt) (l : List Sr) (h0 : cfE s.cv s.ck s.cs = 0) : rck s l = if (allB s l.length || mts [] l) = true then 130 else 0 := by
  cases h5 : B5 s l.length
  · cases h7 : B7 s
    · cases h9 : B9 s
      · cases h11 : B11 s
        · cases h13 : B13 s
          · cases ht : mts [] l
            · rw [rk7 h0 h5 h7 h9 h11 h13 ht, allB, h5, h7, h9, h11, h13]; rfl
            · rw [rk6 h0 h5 h7 h9 h11 h13 ht, allB, h5, h7, h9, h11, h13]; rfl
          · rw [rk5 h0 h5 h7 h9 h11 h13, allB, h5, h7, h9, h11, h13]; rfl
        · rw [rk4 h0 h5 h7 h9 h11, allB, h5, h7, h9, h11]; rfl
      · rw [rk3 h0 h5 h7 h9, allB, h5, h7, h9]; rfl
    · rw [rk2 h0 h5 h7, allB, h5, h7]; rfl
  · rw [rk1 h0 h5, allB, h5]; rfl
theorem allB_can (s : Stt) (n : Nat) : allB s n = (decide ((n : Int) > s.cs) || !pcb s || !scb s || !rcb s || !ocb s) := by
  unfold allB B5 B7 B9 B11 B13 pcb scb rcb ocb bne
  generalize decide ((n : Int) > s.cs) = a0
  generalize decide (s.opr = zr 32 ∧ s.opu = zr 32) = a1
  generalize ipr s.opr s.opu = a2
  generalize decide (s.peer = zr 32) = a3
  generalize decide (s.snd = zr 32) = a4
  generalize decide (s.shd = zr 32) = a5
  generalize (s.sn == 0) = a6
  generalize (s.pv == 0) = a7
  generalize decide (s.rcv = zr 32) = a8
  generalize decide (s.rhd = zr 32) = a9
  generalize (s.rn == 0) = a10
  generalize s.ho = b0
  generalize s.hp = b1
  generalize s.tu = b2
  generalize s.hs = b3
  generalize s.hr = b4
  revert a0 a1 a2 a3 a4 a5 a6 a7 a8 a9 a10 b0 b1 b2 b3 b4
  decide +kernel
theorem rck_can (s : Stt) (l : List Sr) (h0 : cfE s.cv s.ck s.cs = 0) (hp : pe [] l s.cs = 0) : rck s l = if (pcb s && scb s && rcb s && ocb s) = true then 0 else 130 := by
  rw [rck_all s l h0, allB_can]
  rcases pe_cases [] l s.cs with ⟨_, hm, hl⟩ | h | h
  · have hd : decide ((l.length : Int) > s.cs) = false := by
      simp at hl ⊢
      omega
    rw [hm, hd]
    cases pcb s <;> cases scb s <;> cases rcb s <;> cases ocb s <;> rfl
  · omega
  · omega
theorem rck_no (s : Stt) (l : List Sr) (h0 : cfE s.cv s.ck s.cs = 0) (hp : pe [] l s.cs ≠ 0) : rck s l = 130 := by
  rw [rck_all s l h0, allB_can]
  have h2 : (decide ((l.length : Int) > s.cs) || mts [] l) = true := by
    unfold pe at hp
    cases hm : mts [] l
    · rw [hm, if_neg (by decide)] at hp
      split at hp
      · rename_i h
        simp at h ⊢
        omega
      · exact absurd rfl hp
    · simp
  rw [if_pos]
  revert h2
  generalize decide ((l.length : Int) > s.cs) = a
  generalize mts [] l = b
  cases a <;> cases b <;> simp
theorem infoTS {m : Int} {v : Value} {b : Option Nat} : (Tryd.prog.info? 63).map (·.size) = some (#[.int .i64 m, v, .map b] : Array Value).size := by kernel_rfl
theorem builtSd {s : Stt} (h : s.ok) (m : Int) (v : Value) (b : Option Nat) : Tryd.prog.built 65 [(0, .agg (strow s)), (1, .agg #[.int .i64 m, v, .map b])] = some (sdrow s m v b) := by
  obtain ⟨cv, ck, cs, root, opr, opu, peer, ho, hp, tu, snd, shd, nsd, sn, pv, hs, rcv, rhd, nrv, rn, hr, sp⟩ := s
  obtain ⟨l_root, l_opr, l_opu, l_peer, l_snd, l_shd, l_nsd, l_rcv, l_rhd, l_nrv, _⟩ := h
  dsimp only at l_root l_opr l_opu l_peer l_snd l_shd l_nsd l_rcv l_rhd l_nrv
  obtain ⟨root0, root1, root2, root3, root4, root5, root6, root7, root8, root9, root10, root11, root12, root13, root14, root15, root16, root17, root18, root19, root20, root21, root22, root23, root24, root25, root26, root27, root28, root29, root30, root31, rfl⟩ := len32 root l_root
  obtain ⟨opr0, opr1, opr2, opr3, opr4, opr5, opr6, opr7, opr8, opr9, opr10, opr11, opr12, opr13, opr14, opr15, opr16, opr17, opr18, opr19, opr20, opr21, opr22, opr23, opr24, opr25, opr26, opr27, opr28, opr29, opr30, opr31, rfl⟩ := len32 opr l_opr
  obtain ⟨opu0, opu1, opu2, opu3, opu4, opu5, opu6, opu7, opu8, opu9, opu10, opu11, opu12, opu13, opu14, opu15, opu16, opu17, opu18, opu19, opu20, opu21, opu22, opu23, opu24, opu25, opu26, opu27, opu28, opu29, opu30, opu31, rfl⟩ := len32 opu l_opu
  obtain ⟨peer0, peer1, peer2, peer3, peer4, peer5, peer6, peer7, peer8, peer9, peer10, peer11, peer12, peer13, peer14, peer15, peer16, peer17, peer18, peer19, peer20, peer21, peer22, peer23, peer24, peer25, peer26, peer27, peer28, peer29, peer30, peer31, rfl⟩ := len32 peer l_peer
  obtain ⟨snd0, snd1, snd2, snd3, snd4, snd5, snd6, snd7, snd8, snd9, snd10, snd11, snd12, snd13, snd14, snd15, snd16, snd17, snd18, snd19, snd20, snd21, snd22, snd23, snd24, snd25, snd26, snd27, snd28, snd29, snd30, snd31, rfl⟩ := len32 snd l_snd
  obtain ⟨shd0, shd1, shd2, shd3, shd4, shd5, shd6, shd7, shd8, shd9, shd10, shd11, shd12, shd13, shd14, shd15, shd16, shd17, shd18, shd19, shd20, shd21, shd22, shd23, shd24, shd25, shd26, shd27, shd28, shd29, shd30, shd31, rfl⟩ := len32 shd l_shd
  obtain ⟨nsd0, nsd1, nsd2, nsd3, nsd4, nsd5, nsd6, nsd7, nsd8, nsd9, nsd10, nsd11, nsd12, nsd13, nsd14, nsd15, nsd16, nsd17, nsd18, nsd19, nsd20, nsd21, nsd22, nsd23, nsd24, nsd25, nsd26, nsd27, nsd28, nsd29, nsd30, nsd31, rfl⟩ := len32 nsd l_nsd
  obtain ⟨rcv0, rcv1, rcv2, rcv3, rcv4, rcv5, rcv6, rcv7, rcv8, rcv9, rcv10, rcv11, rcv12, rcv13, rcv14, rcv15, rcv16, rcv17, rcv18, rcv19, rcv20, rcv21, rcv22, rcv23, rcv24, rcv25, rcv26, rcv27, rcv28, rcv29, rcv30, rcv31, rfl⟩ := len32 rcv l_rcv
  obtain ⟨rhd0, rhd1, rhd2, rhd3, rhd4, rhd5, rhd6, rhd7, rhd8, rhd9, rhd10, rhd11, rhd12, rhd13, rhd14, rhd15, rhd16, rhd17, rhd18, rhd19, rhd20, rhd21, rhd22, rhd23, rhd24, rhd25, rhd26, rhd27, rhd28, rhd29, rhd30, rhd31, rfl⟩ := len32 rhd l_rhd
  obtain ⟨nrv0, nrv1, nrv2, nrv3, nrv4, nrv5, nrv6, nrv7, nrv8, nrv9, nrv10, nrv11, nrv12, nrv13, nrv14, nrv15, nrv16, nrv17, nrv18, nrv19, nrv20, nrv21, nrv22, nrv23, nrv24, nrv25, nrv26, nrv27, nrv28, nrv29, nrv30, nrv31, rfl⟩ := len32 nrv l_nrv
  kernel_rfl
/-- What sideOf answers. -/
def SdR (s : Stt) (l : List Sr) (w : World) (e : Ending) (w' : World) : Prop :=
  (∃ E, E ≠ 0 ∧ rck s l = E ∧ e = .returned (.tuple #[.agg (sdrow zst 0 (.slice none 0 0) none), .int .i64 E]) ∧ Below w.heap.size w w') ∨
  (∃ g b v, rck s l = 0 ∧ e = .returned (.tuple #[.agg (sdrow { s with sp := .slice none 0 0 } s.cs v (some b)), .int .i64 0]) ∧ Sto w' w.heap.size g b v s.cs l ∧ Below w.heap.size w w')
set_option maxRecDepth 100000 in
set_option maxHeartbeats 16000000 in
theorem a_sideOf (s : Stt) (hs : s.ok) (ha : K8 s.opr) (l : List Sr) (w : World) (hl : SpL w s.sp l) (hF : Lo.Four w) : Calls Tryd.prog 21 #[.agg (strow s)] w (SdR s l w) := by
  unfold SdR
  have R0 := hp2_0 w (.cells (strow s) 38) (.cells (sdrow zst 0 (.slice none 0 0) none) 65)
  have R1 := hp2_1 w (.cells (strow s) 38) (.cells (sdrow zst 0 (.slice none 0 0) none) 65)
  have hw : Below w.heap.size w ((w.alloc (.cells (strow s) 38)).alloc (.cells (sdrow zst 0 (.slice none 0 0) none) 65)) := ((Below.refl _ _).alloc (Nat.le_refl _) _).alloc (by simp) _
  have sz : w.heap.size + 2 = ((w.alloc (.cells (strow s) 38)).alloc (.cells (sdrow zst 0 (.slice none 0 0) none) 65)).heap.size := by simp
  have cC := a_checkConfig s.cv s.ck s.cs ((w.alloc (.cells (strow s) 38)).alloc (.cells (sdrow zst 0 (.slice none 0 0) none) 65))
  replace hF := hF.below hw
  obtain ⟨E, hE⟩ : ∃ E_, cfE s.cv s.ck s.cs = E_ := ⟨_, rfl⟩
  rw [hE] at cC
  replace hE := hide hE
  go_enter Tryd.func21, Tryd.ntmps21
  go_wp2_with (first | (refine wpList_box rfl 38 _ rfl _ rfl (bStA _) ?_) | (refine wpList_alloc rfl 65 rfl (sdrow zst 0 (.slice none 0 0) none) zSdA ?_) | (refine wpList_load_part rfl 27 _ rfl (w.heap.size) 0 rfl 38 (strow s) (0, 0) (cfrow s.cv s.ck s.cs) _ R0 (st_cfg _ _) Tryd.underlying27 rfl infoCf ?_) | fail)
  refine cC.mono ?_
  rintro e_ w1 ⟨rfl, hb⟩
  have sz1 : w.heap.size + 2 ≤ w1.heap.size := by rw [sz]; exact hb.size
  replace R0 := keep hb R0
  replace R1 := keep hb R1
  replace hF := hF.below hb
  replace hw := Below.after hw hb
  clear hb cC sz
  by_cases h0 : E = 0
  · subst h0
    have hcf := cf_ok hE.out
    have hl1 := hl.keep hw
    have c_cs : w1.cell? ⟨w.heap.size, 2, none⟩ = some (.int .i64 s.cs) := (cell_of_row _ _ _ _ _ _ R0).trans (st_cs hs [])
    have c_sp : w1.cell? ⟨w.heap.size, 331, none⟩ = some s.sp := (cell_of_row _ _ _ _ _ _ R0).trans (st_sp hs [])
    obtain ⟨ao, cap, hsp⟩ := hl.form
    by_cases hp : pe [] l s.cs = 0
    · have hP := hide hp
      rcases pe_cases [] l s.cs with ⟨_, hm, hll⟩ | h | h
      · have cF := a_From_go s.cs hcf.2.2.2.1 hcf.2.2.2.2 l s.sp w1 hl1 hm (by simpa using hll)
        rw [hsp] at c_sp cF
        clear hp hm hll hsp hcf hl1
        go_wp2_with (fail)
        refine cF.mono ?_
        rintro e_ w2 ⟨g, b, v, rfl, hS, hb⟩
        replace R0 := keep hb R0
        replace R1 := keep hb R1
        replace hF := hF.below hb
        replace hw := Below.after hw hb
        clear hb cF c_cs c_sp
        have cX := a_peer s hs w2
        obtain ⟨b_pe, q_pe⟩ : ∃ b_, pcb s = b_ := ⟨_, rfl⟩
        rw [q_pe] at cX
        replace q_pe := hide q_pe
        go_wp2_with (first | (refine wpList_load_want rfl 38 _ rfl (w.heap.size) rfl 38 (strow s) (0, 0) _ R0 Tryd.underlying38 rfl (infoSt hs) ?_) | fail)
        refine cX.mono ?_
        rintro e_ wpe ⟨rfl, hb⟩
        replace R0 := keep hb R0
        replace R1 := keep hb R1
        replace hS := hS.keep hb
        replace hF := hF.below hb
        replace hw := Below.after hw hb
        clear hb cX
        cases b_pe
        · have hk : Hid (rck s l = 130) := hide (by rw [rck_can s l hE.out hP.out, q_pe.out]; simp)
          go_wp2_with (first | (refine wpList_build_want rfl 65 _ rfl [] rfl (sdrow zst 0 (.slice none 0 0) none) builtZd ?_) | (refine wpList_store_row rfl 65 _ _ rfl (w.heap.size + 1) (sdrow zst 0 (.slice none 0 0) none) rfl rfl 65 _ R1 (infoSd zst_ok _ _ _) rfl (sdrow_one zst_ok _ _ rfl _) ?_) | fail)
          exact bodyPost_ret (v := .tuple #[.agg (sdrow zst 0 (.slice none 0 0) none), .int .i64 (130)]) (results_cell_slot Tryd.results21 _ _ (w.heap.size + 1) _ _ _ _ rfl (setRow_heap wpe (w.heap.size + 1) _ (sdrow zst 0 (.slice none 0 0) none) _ _ R1) Tryd.underlying65 rfl (infoSd zst_ok _ _ _)) rfl (.inl ⟨130, by decide, hk.out, rfl, below_setRow hw (Nat.le_succ _) (sdrow zst 0 (.slice none 0 0) none)⟩)
        · have cX := a_sending s hs wpe
          obtain ⟨b_se, q_se⟩ : ∃ b_, scb s = b_ := ⟨_, rfl⟩
          rw [q_se] at cX
          replace q_se := hide q_se
          go_wp2_with (first | (refine wpList_load_want rfl 38 _ rfl (w.heap.size) rfl 38 (strow s) (0, 0) _ R0 Tryd.underlying38 rfl (infoSt hs) ?_) | fail)
          refine cX.mono ?_
          rintro e_ wse ⟨rfl, hb⟩
          replace R0 := keep hb R0
          replace R1 := keep hb R1
          replace hS := hS.keep hb
          replace hF := hF.below hb
          replace hw := Below.after hw hb
          clear hb cX
          cases b_se
          · have hk : Hid (rck s l = 130) := hide (by rw [rck_can s l hE.out hP.out, q_pe.out, q_se.out]; simp)
            go_wp2_with (first | (refine wpList_build_want rfl 65 _ rfl [] rfl (sdrow zst 0 (.slice none 0 0) none) builtZd ?_) | (refine wpList_store_row rfl 65 _ _ rfl (w.heap.size + 1) (sdrow zst 0 (.slice none 0 0) none) rfl rfl 65 _ R1 (infoSd zst_ok _ _ _) rfl (sdrow_one zst_ok _ _ rfl _) ?_) | fail)
            exact bodyPost_ret (v := .tuple #[.agg (sdrow zst 0 (.slice none 0 0) none), .int .i64 (130)]) (results_cell_slot Tryd.results21 _ _ (w.heap.size + 1) _ _ _ _ rfl (setRow_heap wse (w.heap.size + 1) _ (sdrow zst 0 (.slice none 0 0) none) _ _ R1) Tryd.underlying65 rfl (infoSd zst_ok _ _ _)) rfl (.inl ⟨130, by decide, hk.out, rfl, below_setRow hw (Nat.le_succ _) (sdrow zst 0 (.slice none 0 0) none)⟩)
          · have cX := a_receiving s hs wse
            obtain ⟨b_re, q_re⟩ : ∃ b_, rcb s = b_ := ⟨_, rfl⟩
            rw [q_re] at cX
            replace q_re := hide q_re
            go_wp2_with (first | (refine wpList_load_want rfl 38 _ rfl (w.heap.size) rfl 38 (strow s) (0, 0) _ R0 Tryd.underlying38 rfl (infoSt hs) ?_) | fail)
            refine cX.mono ?_
            rintro e_ wre ⟨rfl, hb⟩
            replace R0 := keep hb R0
            replace R1 := keep hb R1
            replace hS := hS.keep hb
            replace hF := hF.below hb
            replace hw := Below.after hw hb
            clear hb cX
            cases b_re
            · have hk : Hid (rck s l = 130) := hide (by rw [rck_can s l hE.out hP.out, q_pe.out, q_se.out, q_re.out]; simp)
              go_wp2_with (first | (refine wpList_build_want rfl 65 _ rfl [] rfl (sdrow zst 0 (.slice none 0 0) none) builtZd ?_) | (refine wpList_store_row rfl 65 _ _ rfl (w.heap.size + 1) (sdrow zst 0 (.slice none 0 0) none) rfl rfl 65 _ R1 (infoSd zst_ok _ _ _) rfl (sdrow_one zst_ok _ _ rfl _) ?_) | fail)
              exact bodyPost_ret (v := .tuple #[.agg (sdrow zst 0 (.slice none 0 0) none), .int .i64 (130)]) (results_cell_slot Tryd.results21 _ _ (w.heap.size + 1) _ _ _ _ rfl (setRow_heap wre (w.heap.size + 1) _ (sdrow zst 0 (.slice none 0 0) none) _ _ R1) Tryd.underlying65 rfl (infoSd zst_ok _ _ _)) rfl (.inl ⟨130, by decide, hk.out, rfl, below_setRow hw (Nat.le_succ _) (sdrow zst 0 (.slice none 0 0) none)⟩)
            · have cX := a_own s hs ha wre hF
              obtain ⟨b_ow, q_ow⟩ : ∃ b_, ocb s = b_ := ⟨_, rfl⟩
              rw [q_ow] at cX
              replace q_ow := hide q_ow
              go_wp2_with (first | (refine wpList_load_want rfl 38 _ rfl (w.heap.size) rfl 38 (strow s) (0, 0) _ R0 Tryd.underlying38 rfl (infoSt hs) ?_) | fail)
              refine cX.mono ?_
              rintro e_ wow ⟨rfl, hb⟩
              replace R0 := keep hb R0
              replace R1 := keep hb R1
              replace hS := hS.keep hb
              replace hF := hF.below hb
              replace hw := Below.after hw hb
              clear hb cX
              cases b_ow
              · have hk : Hid (rck s l = 130) := hide (by rw [rck_can s l hE.out hP.out, q_pe.out, q_se.out, q_re.out, q_ow.out]; simp)
                go_wp2_with (first | (refine wpList_build_want rfl 65 _ rfl [] rfl (sdrow zst 0 (.slice none 0 0) none) builtZd ?_) | (refine wpList_store_row rfl 65 _ _ rfl (w.heap.size + 1) (sdrow zst 0 (.slice none 0 0) none) rfl rfl 65 _ R1 (infoSd zst_ok _ _ _) rfl (sdrow_one zst_ok _ _ rfl _) ?_) | fail)
                exact bodyPost_ret (v := .tuple #[.agg (sdrow zst 0 (.slice none 0 0) none), .int .i64 (130)]) (results_cell_slot Tryd.results21 _ _ (w.heap.size + 1) _ _ _ _ rfl (setRow_heap wow (w.heap.size + 1) _ (sdrow zst 0 (.slice none 0 0) none) _ _ R1) Tryd.underlying65 rfl (infoSd zst_ok _ _ _)) rfl (.inl ⟨130, by decide, hk.out, rfl, below_setRow hw (Nat.le_succ _) (sdrow zst 0 (.slice none 0 0) none)⟩)
              · have hk : Hid (rck s l = 0) := hide (by rw [rck_can s l hE.out hP.out, q_pe.out, q_se.out, q_re.out, q_ow.out]; rfl)
                have hs2 : Stt.ok { s with sp := .slice none 0 0 } := hs.put rfl
                have lg := (hS.low g (.inl rfl)).1
                have hv1 : v.oneCell' = true := by
                  obtain ⟨ao_, cap_, rfl⟩ := slen_own hS.own
                  rfl
                have q1 := st_put hs [] (.slice none 0 0)
                go_upto_region 8 with (first | (refine wpList_store_cell rfl 36 _ _ rfl w.heap.size 331 (.slice none 0 0) rfl rfl 38 (strow s) _ R0 (by rw [strow_size hs]; omega) q1 infoLS rfl ?_) | fail)
                have R3 := setRow_heap wow w.heap.size _ (strow { s with sp := .slice none 0 0 }) _ _ R0
                replace R1 := (setRow_other wow w.heap.size (w.heap.size + 1) (strow { s with sp := .slice none 0 0 }) (by omega)).trans R1
                replace hS := hS.move (V := wow.setRow w.heap.size (strow { s with sp := .slice none 0 0 })) (fun k hk => setRow_other _ _ _ _ (by have := (hS.low k hk).1; omega))
                replace hw := below_setRow hw (Nat.le_refl _) (strow { s with sp := .slice none 0 0 })
                clear R0 q1
                change Code.wp _ _ _ _ (wow.setRow w.heap.size (strow { s with sp := .slice none 0 0 }))
                generalize wow.setRow w.heap.size (strow { s with sp := .slice none 0 0 }) = w7 at *
                have hbd : Below w7.heap.size w7 w7.drew := below_drN (Below.refl _ _) 1
                have R0 := keep hbd R3
                replace R1 := keep hbd R1
                replace hS := hS.keep hbd
                replace hw := Below.after hw hbd
                clear hbd R3
                go_wp2_with (fail)
                refine wp_region_noPanic ?_
                refine wp_region_held (S := fun W => W.heap[w.heap.size]? = some (.cells (strow { s with sp := .slice none 0 0 }) 38 (0, 0)) ∧ W.heap[g]? = some (.cells #[.int .i64 s.cs, v, .map (some b)] 63 (0, 0))) (by kernel_rfl) ?_
                change wpAnyH _ _ _ _ _ _ _ _ (World.drew _)
                generalize w7.drew = w8 at *
                refine wpAnyH_take (i := 0) (v := .agg (strow { s with sp := .slice none 0 0 })) rfl (by kernel_rfl) (by kernel_rfl) (by kernel_rfl) (fun _ _ _ h => h) (Or.inl ⟨by rfl, ?y1⟩) ⟨R0, hS.row⟩ ?r1
                case y1 =>
                  intro w_ hS_
                  simp only [List.getElem_toArray, List.getElem_cons_zero]
                  exact run_load_part 38 _ (by rfl) w.heap.size 0 (by rfl) 38 (strow { s with sp := .slice none 0 0 }) (0, 0) (strow { s with sp := .slice none 0 0 }) _ hS_.1 (all_row _) Tryd.underlying38 rfl (infoSt hs2)
                simp only [Act.put, List.getElem_toArray, List.getElem_cons_zero, List.setIfInBounds_toArray, List.set_cons_succ, List.set_cons_zero]
                refine wpAnyH_take (i := 1) (v := ?v2) rfl (by kernel_rfl) (by kernel_rfl) (by kernel_rfl) (fun _ _ _ h => h) (Or.inl ⟨by rfl, ?y2⟩) ⟨R0, hS.row⟩ ?r2
                case y2 =>
                  intro w_ hS_
                  go_simp
                  try with_reducible rfl
                simp only [Act.put, List.getElem_toArray, List.getElem_cons_succ, List.getElem_cons_zero, List.setIfInBounds_toArray, List.set_cons_succ, List.set_cons_zero]
                refine wpAnyH_take (i := 2) (v := ?v3) rfl (by kernel_rfl) (by kernel_rfl) (by kernel_rfl) (fun _ _ _ h => h) (Or.inl ⟨by rfl, ?y3⟩) ⟨R0, hS.row⟩ ?r3
                case y3 =>
                  intro w_ hS_
                  go_simp
                  try with_reducible rfl
                simp only [Act.put, List.getElem_toArray, List.getElem_cons_succ, List.getElem_cons_zero, List.setIfInBounds_toArray, List.set_cons_succ, List.set_cons_zero]
                refine wpAnyH_take (i := 3) (v := .agg #[.int .i64 s.cs, v, .map (some b)]) rfl (by kernel_rfl) (by kernel_rfl) (by kernel_rfl) (fun _ _ _ h => h) (Or.inl ⟨by rfl, ?y4⟩) ⟨R0, hS.row⟩ ?r4
                case y4 =>
                  intro w_ hS_
                  simp only [List.getElem_toArray, List.getElem_cons_succ, List.getElem_cons_zero]
                  exact run_load_part 63 _ (by rfl) g 0 (by rfl) 63 #[.int .i64 s.cs, v, .map (some b)] (0, 0) #[.int .i64 s.cs, v, .map (some b)] _ hS_.2 (all_row _) Tryd.underlying63 rfl infoTS
                simp only [Act.put, List.getElem_toArray, List.getElem_cons_succ, List.getElem_cons_zero, List.setIfInBounds_toArray, List.set_cons_succ, List.set_cons_zero]
                refine wpAnyH_take (i := 4) (v := .agg (sdrow { s with sp := .slice none 0 0 } s.cs v (some b))) rfl (by kernel_rfl) (by kernel_rfl) (by kernel_rfl) (fun _ _ _ h => h) (Or.inl ⟨by rfl, ?y5⟩) ⟨R0, hS.row⟩ ?r5
                case y5 =>
                  intro w_ hS_
                  simp only [List.getElem_toArray, List.getElem_cons_succ, List.getElem_cons_zero]
                  exact run_build_op 65 _ (by rfl) [(0, .agg (strow { s with sp := .slice none 0 0 })), (1, .agg #[.int .i64 s.cs, v, .map (some b)])] (by rfl) (sdrow { s with sp := .slice none 0 0 } s.cs v (some b)) (builtSd hs2 _ _ _)
                simp only [Act.put, List.getElem_toArray, List.getElem_cons_succ, List.getElem_cons_zero, List.setIfInBounds_toArray, List.set_cons_succ, List.set_cons_zero]
                refine wpAnyH_one (k := 5) (fuel := 1) (by kernel_rfl) rfl (by kernel_rfl) (fun K_ hK => ?_)
                refine wp_store_row 65 _ _ rfl (w.heap.size + 1) (sdrow { s with sp := .slice none 0 0 } s.cs v (some b)) rfl rfl 65 _ R1 (infoSd hs2 _ _ _) (by rw [sdrow_size zst_ok, sdrow_size hs2]) (sdrow_one hs2 _ _ hv1 _) ?_
                replace R0 := (setRow_other w8 (w.heap.size + 1) w.heap.size (sdrow { s with sp := .slice none 0 0 } s.cs v (some b)) (by omega)).trans R0
                have Rg := (setRow_other w8 (w.heap.size + 1) g (sdrow { s with sp := .slice none 0 0 } s.cs v (some b)) (by omega)).trans hS.row
                replace hS := hS.move (V := w8.setRow (w.heap.size + 1) (sdrow { s with sp := .slice none 0 0 } s.cs v (some b))) (fun k hk => setRow_other _ _ _ _ (by have := (hS.low k hk).1; omega))
                replace R1 := setRow_heap w8 (w.heap.size + 1) _ (sdrow { s with sp := .slice none 0 0 } s.cs v (some b)) _ _ R1
                replace hw := below_setRow hw (Nat.le_succ _) (sdrow { s with sp := .slice none 0 0 } s.cs v (some b))
                refine hK _ _ ⟨R0, Rg⟩ ?_
                simp only [Act.put]
                clear hK
                generalize w8.setRow (w.heap.size + 1) (sdrow { s with sp := .slice none 0 0 } s.cs v (some b)) = w9 at *
                refine wpAnyH_take (i := 6) (v := ?v6) rfl (by kernel_rfl) (by kernel_rfl) (by kernel_rfl) (fun _ _ _ h => h) (Or.inl ⟨by rfl, ?y6⟩) ⟨R0, hS.row⟩ ?r6
                case y6 =>
                  intro w_ hS_
                  go_simp
                  try with_reducible rfl
                simp only [Act.put, List.getElem_toArray, List.getElem_cons_succ, List.getElem_cons_zero, List.setIfInBounds_toArray, List.set_cons_succ, List.set_cons_zero]
                refine wpAnyH_done (by kernel_rfl) ?_ _
                refine NoPanic.normal ?_
                go_wp2_with (fail)
                exact bodyPost_ret (v := .tuple #[.agg (sdrow { s with sp := .slice none 0 0 } s.cs v (some b)), .int .i64 0]) (results_cell_slot Tryd.results21 _ _ (w.heap.size + 1) _ _ _ _ rfl R1 Tryd.underlying65 rfl (infoSd hs2 _ _ _)) rfl (.inr ⟨g, b, v, hk.out, rfl, ⟨hS.row, own_down hS.own (by omega), hS.map, hS.ok, hS.nod, hS.most0, hS.len, by omega, by have := hS.bb; omega, hS.ne⟩, hw⟩)
      · omega
      · omega
    · have hk : Hid (rck s l = 130) := hide (rck_no s l hE.out hp)
      have cF := a_From_no s.cs hcf.2.2.2.1 hcf.2.2.2.2 l s.sp w1 hl1 _ rfl hp
      have hd : (pe [] l s.cs != 0) = true := by simpa using hp
      generalize pe [] l s.cs = E2 at *
      rw [hsp] at c_sp cF
      clear hp hsp hcf hl1
      go_wp2_with (fail)
      refine cF.mono ?_
      rintro e_ w2 ⟨rfl, hb⟩
      replace R0 := keep hb R0
      replace R1 := keep hb R1
      replace hw := Below.after hw hb
      clear hb cF c_cs c_sp
      go_wp2_with (first | (refine wpList_build_want rfl 65 _ rfl [] rfl (sdrow zst 0 (.slice none 0 0) none) builtZd ?_) | (refine wpList_store_row rfl 65 _ _ rfl (w.heap.size + 1) (sdrow zst 0 (.slice none 0 0) none) rfl rfl 65 _ R1 (infoSd zst_ok _ _ _) rfl (sdrow_one zst_ok _ _ rfl _) ?_) | fail)
      exact bodyPost_ret (v := .tuple #[.agg (sdrow zst 0 (.slice none 0 0) none), .int .i64 (130)]) (results_cell_slot Tryd.results21 _ _ (w.heap.size + 1) _ _ _ _ rfl (setRow_heap w2 (w.heap.size + 1) _ (sdrow zst 0 (.slice none 0 0) none) _ _ R1) Tryd.underlying65 rfl (infoSd zst_ok _ _ _)) rfl (.inl ⟨130, by decide, hk.out, rfl, below_setRow hw (Nat.le_succ _) (sdrow zst 0 (.slice none 0 0) none)⟩)
  · have hd : (E != 0) = true := by simpa using h0
    have hk : Hid (rck s l = E) := hide (by rw [rk0 (by rw [hE.out]; exact h0), hE.out])
    have h0' := hide h0
    clear h0
    go_wp2_with (first | (refine wpList_build_want rfl 65 _ rfl [] rfl (sdrow zst 0 (.slice none 0 0) none) builtZd ?_) | (refine wpList_store_row rfl 65 _ _ rfl (w.heap.size + 1) (sdrow zst 0 (.slice none 0 0) none) rfl rfl 65 _ R1 (infoSd zst_ok _ _ _) rfl (sdrow_one zst_ok _ _ rfl _) ?_) | fail)
    exact bodyPost_ret (v := .tuple #[.agg (sdrow zst 0 (.slice none 0 0) none), .int .i64 (E)]) (results_cell_slot Tryd.results21 _ _ (w.heap.size + 1) _ _ _ _ rfl (setRow_heap w1 (w.heap.size + 1) _ (sdrow zst 0 (.slice none 0 0) none) _ _ R1) Tryd.underlying65 rfl (infoSd zst_ok _ _ _)) rfl (.inl ⟨_, h0'.out, hk.out, rfl, below_setRow hw (Nat.le_succ _) (sdrow zst 0 (.slice none 0 0) none)⟩)

end Go.Proofs.YtjofbnilhkmpeaaDoor
