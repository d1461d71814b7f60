import Derived.Test.YtlbcdjflcghkeaaDoorProg
import Derived.WalkKit
import Derived.WalkSpells
import Derived.WalkLawsBesides
import Derived.Lib.QuietBelow
import Derived.BigQuiet
import Derived.OrdersHeld
import Derived.OwnWalk
import Derived.Deep.RegionHeld3
import Derived.Deep.Cut
import Derived.Deep.CutRange
import Derived.Deep.CutBlock
import Derived.Test.YtlbcdjflcghkeaaDoorTur
namespace Go.Proofs.YtlbcdjflcghkeaaDoor
set_option maxRecDepth 100000
open Go Go.RowKit Go.Sort
attribute [local go_sem] setCell_drewN alloc_drewN
/-- A step of a script. -/
structure Opn where
  d : Int
  t : Bool
  n : ByteArray
  k : List Int
  r : Bool
  x : ByteArray
def opl (x : Opn) : List Value := [Value.int .i64 x.d] ++ ([Value.bool x.t] ++ ([Value.string x.n] ++ (k8 x.k ++ ([Value.bool x.r] ++ ([Value.string x.x] ++ [])))))
def opr (x : Opn) : Array Value := (opl x).toArray
theorem opl_len (x : Opn)  (h0 : (x.k).length = 32) : (opl x).length = 37 := by simp [opl, k8_len, h0]
theorem opr_size (x : Opn)  (h0 : (x.k).length = 32) : (opr x).size = 37 := by rw [opr, List.size_toArray, opl_len x h0]
theorem opl_one (x : Opn)  : ∀ u ∈ opl x, u.oneCell' = true := by
  intro u hu
  simp only [opl, List.mem_append, List.mem_cons, List.not_mem_nil, or_false] at hu
  rcases hu with rfl | rfl | rfl | hu | rfl | rfl
  · rfl
  · rfl
  · rfl
  · exact k8_one _ _ hu
  · rfl
  · rfl
theorem opr_one (x : Opn)  : (opr x).all (·.oneCell') = true := by
  rw [opr, List.all_toArray, List.all_eq_true]
  exact opl_one x 
theorem op_d (x : Opn)   : (opr x)[0]? = some (Value.int .i64 x.d) := by
  have e : [Value.int .i64 x.d] ++ ([Value.bool x.t] ++ ([Value.string x.n] ++ (k8 x.k ++ ([Value.bool x.r] ++ ([Value.string x.x] ++ []))))) = ([]) ++ ([Value.int .i64 x.d] ++ ([Value.bool x.t] ++ ([Value.string x.n] ++ (k8 x.k ++ ([Value.bool x.r] ++ ([Value.string x.x] ++ [])))))) := by simp
  rw [opr, opl, e]
  exact getx _ _ _ 0 0 rfl (by simp)
theorem op_t (x : Opn)   : (opr x)[1]? = some (Value.bool x.t) := by
  have e : [Value.int .i64 x.d] ++ ([Value.bool x.t] ++ ([Value.string x.n] ++ (k8 x.k ++ ([Value.bool x.r] ++ ([Value.string x.x] ++ []))))) = ([Value.int .i64 x.d] ++ []) ++ ([Value.bool x.t] ++ ([Value.string x.n] ++ (k8 x.k ++ ([Value.bool x.r] ++ ([Value.string x.x] ++ []))))) := by simp
  rw [opr, opl, e]
  exact getx _ _ _ 1 0 (by simp) (by simp)
theorem op_n (x : Opn)   : (opr x)[2]? = some (Value.string x.n) := by
  have e : [Value.int .i64 x.d] ++ ([Value.bool x.t] ++ ([Value.string x.n] ++ (k8 x.k ++ ([Value.bool x.r] ++ ([Value.string x.x] ++ []))))) = ([Value.int .i64 x.d] ++ ([Value.bool x.t] ++ [])) ++ ([Value.string x.n] ++ (k8 x.k ++ ([Value.bool x.r] ++ ([Value.string x.x] ++ [])))) := by simp
  rw [opr, opl, e]
  exact getx _ _ _ 2 0 (by simp) (by simp)
theorem op_k (x : Opn)  (h0 : (x.k).length = 32) : (opr x).extract 3 (3 + (irow .u8 x.k).size) = irow .u8 x.k := by
  have e : [Value.int .i64 x.d] ++ ([Value.bool x.t] ++ ([Value.string x.n] ++ (k8 x.k ++ ([Value.bool x.r] ++ ([Value.string x.x] ++ []))))) = ([Value.int .i64 x.d] ++ ([Value.bool x.t] ++ ([Value.string x.n] ++ []))) ++ (k8 x.k ++ ([Value.bool x.r] ++ ([Value.string x.x] ++ []))) := by simp
  rw [opr, opl, e, irow_size, h0]
  exact extr _ _ _ 3 32 (by simp) (by simp [k8_len, h0])
theorem op_r (x : Opn)  (h0 : (x.k).length = 32) : (opr x)[35]? = some (Value.bool x.r) := by
  have e : [Value.int .i64 x.d] ++ ([Value.bool x.t] ++ ([Value.string x.n] ++ (k8 x.k ++ ([Value.bool x.r] ++ ([Value.string x.x] ++ []))))) = ([Value.int .i64 x.d] ++ ([Value.bool x.t] ++ ([Value.string x.n] ++ (k8 x.k ++ [])))) ++ ([Value.bool x.r] ++ ([Value.string x.x] ++ [])) := by simp
  rw [opr, opl, e]
  exact getx _ _ _ 35 0 (by simp [k8_len, h0]) (by simp)
theorem op_x (x : Opn)  (h0 : (x.k).length = 32) : (opr x)[36]? = some (Value.string x.x) := by
  have e : [Value.int .i64 x.d] ++ ([Value.bool x.t] ++ ([Value.string x.n] ++ (k8 x.k ++ ([Value.bool x.r] ++ ([Value.string x.x] ++ []))))) = ([Value.int .i64 x.d] ++ ([Value.bool x.t] ++ ([Value.string x.n] ++ (k8 x.k ++ ([Value.bool x.r] ++ []))))) ++ ([Value.string x.x] ++ ([])) := by simp
  rw [opr, opl, e]
  exact getx _ _ _ 36 0 (by simp [k8_len, h0]) (by simp)
theorem op_info (x : Opn)  (h0 : (x.k).length = 32) : (Tryd.prog.info? 30).map (·.size) = some (opr x).size := by rw [opr_size x h0]; kernel_rfl
theorem op_box (cs : Array Value) (W : World) : (Instr.box 30 (.agg cs)).run Tryd.prog W = .ok (.pointer (some ⟨W.heap.size, 0, none⟩)) (W.alloc (.cells cs 30)) := by kernel_rfl
/-- The event that a step makes. -/
def stE (p y : List Int) (es : List Ev) (cs : List Ct) (x : Opn) : Option Ev := if x.d = 1 then (seR es cs x.n x.k).2 else if x.d = 3 then (acR es cs x.n).2 else if x.d = 4 then (coR y es cs x.n (if x.r = true then nbr2 p x.k else x.x)).2 else if x.d = 5 then (blR es cs x.n).2 else if x.d = 6 then (ubR es cs x.n).2 else if x.d = 7 then (foR es cs x.n).2 else none
/-- What a call without an answer leaves. -/
def ClR (b g : Nat) (ve vc : Value) (y : List Int) (es : List Ev) (cs : List Ct) (oe : Option Ev) (w : World) (en : Ending) (w' : World) : Prop := ∃ ve' vc', en = .returned (.tuple #[]) ∧ Bk w' b g ve' vc' y (nxt es cs oe).1 (nxt es cs oe).2 ∧ Nx w ve ve' ∧ Nx w vc vc' ∧ Fr (ownB g ve vc) w w'
theorem CaR.cl {b g : Nat} {ve vc : Value} {y : List Int} {es : List Ev} {cs : List Ct} {z : Int × Option Ev} {oe : Option Ev} {w W w' : World} {en : Ending} (h : CaR b g ve vc y es cs z W en w') (hw : Below w.heap.size w W) (ho : oe = z.2) : ClR b g ve vc y es cs oe w (.returned (.tuple #[])) w' := by
  subst ho
  obtain ⟨ve', vc', _, h2, h3, h4, h5⟩ := h
  exact ⟨ve', vc', rfl, h2, h3.of hw.size, h4.of hw.size, (Fr.of hw).step h5 (fun _ _ q => q)⟩
set_option maxRecDepth 100000 in
set_option maxHeartbeats 8000000 in
theorem a_called (p : List Int) (hp : K32 p) (x : Opn) (hx : K32 x.k) (hn : x.n.size ≤ 9223372036854775806) (b g : Nat) (ve vc : Value) (y : List Int) (es : List Ev) (cs : List Ct) (w : World) (hB : Bk w b g ve vc y es cs) (hSt : Sta w) (hKo : Kon w) (hPo : Pow w) (oe : Option Ev) (hoe : Hid (oe = stE p y es cs x)) : Calls Tryd.prog 10 #[.pointer (some ⟨g, 0, none⟩), .agg (irow .u8 p), .agg (opr x)] w (ClR b g ve vc y es cs oe w) := by
  obtain ⟨ao, cap, rfl, hc1, hc2, hz1, hz2⟩ := hB.cts.sl
  obtain ⟨ae, ca, rfl, hc3, hc4, hz3, hz4⟩ := hB.evs.sl
  have rp0 := hp2_0 w (.cells (irow .u8 p) 23) (.cells (opr x) 30)
  have rp1 := hp2_1 w (.cells (irow .u8 p) 23) (.cells (opr x) 30)
  have hw : Below w.heap.size w ((w.alloc (.cells (irow .u8 p) 23)).alloc (.cells (opr x) 30)) := (((Below.refl _ _).alloc (Nat.le_refl _) _).alloc (by simp) _)
  replace hB := hB.keep hw
  go_enter Tryd.func10, Tryd.ntmps10
  go_upto_region 1 with (first | (refine wpList_box rfl 23 _ rfl _ rfl (bKy _) ?_) | (refine wpList_box rfl 30 _ rfl _ rfl (op_box _) ?_) | fail)
  try simp only [size_alloc1]
  generalize ((w.alloc (.cells (irow .u8 p) 23)).alloc (.cells (opr x) 30)) = w0 at *
  generalize d1 : (x.d == 1) = x1 at *
  generalize d3 : (x.d == 3) = x3 at *
  generalize d4 : (x.d == 4) = x4 at *
  generalize d5 : (x.d == 5) = x5 at *
  generalize d6 : (x.d == 6) = x6 at *
  generalize d7 : (x.d == 7) = x7 at *
  cases x1
  · skip
    have n1 : ¬ x.d = 1 := by simpa using d1
    cases x3
    · skip
      have n3 : ¬ x.d = 3 := by simpa using d3
      cases x4
      · skip
        have n4 : ¬ x.d = 4 := by simpa using d4
        cases x5
        · skip
          have n5 : ¬ x.d = 5 := by simpa using d5
          cases x6
          · skip
            have n6 : ¬ x.d = 6 := by simpa using d6
            cases x7
            · skip
              have n7 : ¬ x.d = 7 := by simpa using d7
              have hu : Hid (oe = none) := hide (by rw [hoe.out]; unfold stE; rw [if_neg n1]; rw [if_neg n3]; rw [if_neg n4]; rw [if_neg n5]; rw [if_neg n6]; rw [if_neg n7])
              have fc19 := cell_at rp1 (op_d x)
              have fc20 := cell_at rp1 (op_n x)
              have fc21 := cell_at rp1 (op_r x hx.1)
              have fc22 := cell_at rp1 (op_x x hx.1)
              go_wp2_with (first | (refine wpList_load_part rfl 23 _ rfl (w.heap.size) 0 rfl 23 (irow .u8 p) (0, 0) (irow .u8 p) _ rp0 (all_rowe _) Tryd.underlying23 rfl (infoKy _ hp.1) ?_) | (refine wpList_load_part rfl 23 _ rfl (w.heap.size + 1) 3 rfl 30 (opr x) (0, 0) (irow .u8 x.k) _ rp1 (op_k x hx.1) Tryd.underlying23 rfl (infoKy _ hx.1) ?_) | (refine wpList_load_part rfl 30 _ rfl (w.heap.size + 1) 0 rfl 30 (opr x) (0, 0) (opr x) _ rp1 (all_rowe _) Tryd.underlying30 rfl (op_info _ hx.1) ?_) | fail)
              clear fc19 fc20 fc21 fc22
              refine bodyPost_end (results_none rfl _ _ _) rfl ?_
              rw [hu.out]
              exact ⟨_, _, rfl, hB, Nx.refl _ _, Nx.refl _ _, Fr.of hw⟩
            · skip
              have p7 : x.d = 7 := by simpa using d7
              have hu : Hid (oe = (foR es cs x.n).2) := hide (by rw [hoe.out]; unfold stE; rw [if_neg n1]; rw [if_neg n3]; rw [if_neg n4]; rw [if_neg n5]; rw [if_neg n6]; rw [if_pos p7])
              clear p7
              have fc23 := cell_at rp1 (op_d x)
              have fc24 := cell_at rp1 (op_n x)
              have fc25 := cell_at rp1 (op_r x hx.1)
              have fc26 := cell_at rp1 (op_x x hx.1)
              go_wp2_with (first | (refine wpList_load_part rfl 23 _ rfl (w.heap.size) 0 rfl 23 (irow .u8 p) (0, 0) (irow .u8 p) _ rp0 (all_rowe _) Tryd.underlying23 rfl (infoKy _ hp.1) ?_) | (refine wpList_load_part rfl 23 _ rfl (w.heap.size + 1) 3 rfl 30 (opr x) (0, 0) (irow .u8 x.k) _ rp1 (op_k x hx.1) Tryd.underlying23 rfl (infoKy _ hx.1) ?_) | (refine wpList_load_part rfl 30 _ rfl (w.heap.size + 1) 0 rfl 30 (opr x) (0, 0) (opr x) _ rp1 (all_rowe _) Tryd.underlying30 rfl (op_info _ hx.1) ?_) | fail)
              clear fc23 fc24 fc25 fc26
              refine (a_Forget x.n hn b g _ _ y es cs _ hB).mono ?_
              rintro e_ wc21 hX_
              obtain ⟨i_, rfl⟩ : ∃ i, e_ = .returned (.int .i64 i) := by obtain ⟨_, _, h_, _⟩ := hX_; exact ⟨_, h_⟩
              go_wp2_with (fail)
              refine bodyPost_end (results_none rfl _ _ _) rfl ?_
              exact CaR.cl hX_ hw hu.out
          · skip
            have p6 : x.d = 6 := by simpa using d6
            have hu : Hid (oe = (ubR es cs x.n).2) := hide (by rw [hoe.out]; unfold stE; rw [if_neg n1]; rw [if_neg n3]; rw [if_neg n4]; rw [if_neg n5]; rw [if_pos p6])
            clear p6
            have fc27 := cell_at rp1 (op_d x)
            have fc28 := cell_at rp1 (op_n x)
            have fc29 := cell_at rp1 (op_r x hx.1)
            have fc30 := cell_at rp1 (op_x x hx.1)
            go_wp2_with (first | (refine wpList_load_part rfl 23 _ rfl (w.heap.size) 0 rfl 23 (irow .u8 p) (0, 0) (irow .u8 p) _ rp0 (all_rowe _) Tryd.underlying23 rfl (infoKy _ hp.1) ?_) | (refine wpList_load_part rfl 23 _ rfl (w.heap.size + 1) 3 rfl 30 (opr x) (0, 0) (irow .u8 x.k) _ rp1 (op_k x hx.1) Tryd.underlying23 rfl (infoKy _ hx.1) ?_) | (refine wpList_load_part rfl 30 _ rfl (w.heap.size + 1) 0 rfl 30 (opr x) (0, 0) (opr x) _ rp1 (all_rowe _) Tryd.underlying30 rfl (op_info _ hx.1) ?_) | fail)
            clear fc27 fc28 fc29 fc30
            refine (a_Unblock x.n hn b g _ _ y es cs _ hB).mono ?_
            rintro e_ wc22 hX_
            obtain ⟨i_, rfl⟩ : ∃ i, e_ = .returned (.int .i64 i) := by obtain ⟨_, _, h_, _⟩ := hX_; exact ⟨_, h_⟩
            go_wp2_with (fail)
            refine bodyPost_end (results_none rfl _ _ _) rfl ?_
            exact CaR.cl hX_ hw hu.out
        · skip
          have p5 : x.d = 5 := by simpa using d5
          have hu : Hid (oe = (blR es cs x.n).2) := hide (by rw [hoe.out]; unfold stE; rw [if_neg n1]; rw [if_neg n3]; rw [if_neg n4]; rw [if_pos p5])
          clear p5
          have fc31 := cell_at rp1 (op_d x)
          have fc32 := cell_at rp1 (op_n x)
          have fc33 := cell_at rp1 (op_r x hx.1)
          have fc34 := cell_at rp1 (op_x x hx.1)
          go_wp2_with (first | (refine wpList_load_part rfl 23 _ rfl (w.heap.size) 0 rfl 23 (irow .u8 p) (0, 0) (irow .u8 p) _ rp0 (all_rowe _) Tryd.underlying23 rfl (infoKy _ hp.1) ?_) | (refine wpList_load_part rfl 23 _ rfl (w.heap.size + 1) 3 rfl 30 (opr x) (0, 0) (irow .u8 x.k) _ rp1 (op_k x hx.1) Tryd.underlying23 rfl (infoKy _ hx.1) ?_) | (refine wpList_load_part rfl 30 _ rfl (w.heap.size + 1) 0 rfl 30 (opr x) (0, 0) (opr x) _ rp1 (all_rowe _) Tryd.underlying30 rfl (op_info _ hx.1) ?_) | fail)
          clear fc31 fc32 fc33 fc34
          refine (a_Block x.n hn b g _ _ y es cs _ hB).mono ?_
          rintro e_ wc23 hX_
          obtain ⟨i_, rfl⟩ : ∃ i, e_ = .returned (.int .i64 i) := by obtain ⟨_, _, h_, _⟩ := hX_; exact ⟨_, h_⟩
          go_wp2_with (fail)
          refine bodyPost_end (results_none rfl _ _ _) rfl ?_
          exact CaR.cl hX_ hw hu.out
      · skip
        have p4 : x.d = 4 := by simpa using d4
        generalize dr : x.r = xr at *
        cases xr
        · skip
          have hu : Hid (oe = (coR y es cs x.n x.x).2) := hide (by rw [hoe.out]; unfold stE; rw [if_neg n1]; rw [if_neg n3]; rw [if_pos p4]; rw [if_neg (by rw [dr]; decide)])
          clear p4
          have fc35 := cell_at rp1 (op_d x)
          have fc36 := cell_at rp1 (op_n x)
          have fc37 := cell_at rp1 (op_r x hx.1)
          have fc38 := cell_at rp1 (op_x x hx.1)
          go_wp2_with (first | (refine wpList_load_part rfl 23 _ rfl (w.heap.size) 0 rfl 23 (irow .u8 p) (0, 0) (irow .u8 p) _ rp0 (all_rowe _) Tryd.underlying23 rfl (infoKy _ hp.1) ?_) | (refine wpList_load_part rfl 23 _ rfl (w.heap.size + 1) 3 rfl 30 (opr x) (0, 0) (irow .u8 x.k) _ rp1 (op_k x hx.1) Tryd.underlying23 rfl (infoKy _ hx.1) ?_) | (refine wpList_load_part rfl 30 _ rfl (w.heap.size + 1) 0 rfl 30 (opr x) (0, 0) (opr x) _ rp1 (all_rowe _) Tryd.underlying30 rfl (op_info _ hx.1) ?_) | fail)
          clear fc35 fc36 fc37 fc38
          refine (a_Confirm x.n hn x.x b g _ _ y es cs _ hB (hSt.below hw) (hKo.below hw) (hPo.below hw)).mono ?_
          rintro e_ wc24 hX_
          obtain ⟨i_, rfl⟩ : ∃ i, e_ = .returned (.int .i64 i) := by obtain ⟨_, _, h_, _⟩ := hX_; exact ⟨_, h_⟩
          go_wp2_with (fail)
          refine bodyPost_end (results_none rfl _ _ _) rfl ?_
          exact CaR.cl hX_ hw hu.out
        · skip
          have hu : Hid (oe = (coR y es cs x.n (nbr2 p x.k)).2) := hide (by rw [hoe.out]; unfold stE; rw [if_neg n1]; rw [if_neg n3]; rw [if_pos p4]; rw [if_pos dr])
          clear p4
          have fc39 := cell_at rp1 (op_d x)
          have fc40 := cell_at rp1 (op_n x)
          have fc41 := cell_at rp1 (op_r x hx.1)
          have fc42 := cell_at rp1 (op_x x hx.1)
          go_wp2_with (first | (refine wpList_load_part rfl 23 _ rfl (w.heap.size) 0 rfl 23 (irow .u8 p) (0, 0) (irow .u8 p) _ rp0 (all_rowe _) Tryd.underlying23 rfl (infoKy _ hp.1) ?_) | (refine wpList_load_part rfl 23 _ rfl (w.heap.size + 1) 3 rfl 30 (opr x) (0, 0) (irow .u8 x.k) _ rp1 (op_k x hx.1) Tryd.underlying23 rfl (infoKy _ hx.1) ?_) | (refine wpList_load_part rfl 30 _ rfl (w.heap.size + 1) 0 rfl 30 (opr x) (0, 0) (opr x) _ rp1 (all_rowe _) Tryd.underlying30 rfl (op_info _ hx.1) ?_) | fail)
          clear fc39 fc40 fc41 fc42
          refine (a_number p x.k hp hx _ (hSt.below hw) (hKo.below hw) (hPo.below hw)).mono ?_
          rintro e_ wn25 ⟨rfl, hb⟩
          replace rp0 := keep hb rp0
          replace rp1 := keep hb rp1
          replace hB := hB.keep hb
          replace hw := Below.after hw hb
          clear hb
          have fc43 := cell_at rp1 (op_d x)
          have fc44 := cell_at rp1 (op_n x)
          have fc45 := cell_at rp1 (op_r x hx.1)
          have fc46 := cell_at rp1 (op_x x hx.1)
          go_wp2_with (first | (refine wpList_load_part rfl 23 _ rfl (w.heap.size) 0 rfl 23 (irow .u8 p) (0, 0) (irow .u8 p) _ rp0 (all_rowe _) Tryd.underlying23 rfl (infoKy _ hp.1) ?_) | (refine wpList_load_part rfl 23 _ rfl (w.heap.size + 1) 3 rfl 30 (opr x) (0, 0) (irow .u8 x.k) _ rp1 (op_k x hx.1) Tryd.underlying23 rfl (infoKy _ hx.1) ?_) | (refine wpList_load_part rfl 30 _ rfl (w.heap.size + 1) 0 rfl 30 (opr x) (0, 0) (opr x) _ rp1 (all_rowe _) Tryd.underlying30 rfl (op_info _ hx.1) ?_) | fail)
          clear fc43 fc44 fc45 fc46
          refine (a_Confirm x.n hn (nbr2 p x.k) b g _ _ y es cs _ hB (hSt.below hw) (hKo.below hw) (hPo.below hw)).mono ?_
          rintro e_ wc26 hX_
          obtain ⟨i_, rfl⟩ : ∃ i, e_ = .returned (.int .i64 i) := by obtain ⟨_, _, h_, _⟩ := hX_; exact ⟨_, h_⟩
          go_wp2_with (fail)
          refine bodyPost_end (results_none rfl _ _ _) rfl ?_
          exact CaR.cl hX_ hw hu.out
    · skip
      have p3 : x.d = 3 := by simpa using d3
      have hu : Hid (oe = (acR es cs x.n).2) := hide (by rw [hoe.out]; unfold stE; rw [if_neg n1]; rw [if_pos p3])
      clear p3
      have fc47 := cell_at rp1 (op_d x)
      have fc48 := cell_at rp1 (op_n x)
      have fc49 := cell_at rp1 (op_r x hx.1)
      have fc50 := cell_at rp1 (op_x x hx.1)
      go_wp2_with (first | (refine wpList_load_part rfl 23 _ rfl (w.heap.size) 0 rfl 23 (irow .u8 p) (0, 0) (irow .u8 p) _ rp0 (all_rowe _) Tryd.underlying23 rfl (infoKy _ hp.1) ?_) | (refine wpList_load_part rfl 23 _ rfl (w.heap.size + 1) 3 rfl 30 (opr x) (0, 0) (irow .u8 x.k) _ rp1 (op_k x hx.1) Tryd.underlying23 rfl (infoKy _ hx.1) ?_) | (refine wpList_load_part rfl 30 _ rfl (w.heap.size + 1) 0 rfl 30 (opr x) (0, 0) (opr x) _ rp1 (all_rowe _) Tryd.underlying30 rfl (op_info _ hx.1) ?_) | fail)
      clear fc47 fc48 fc49 fc50
      refine (a_Accept x.n hn b g _ _ y es cs _ hB).mono ?_
      rintro e_ wc27 hX_
      obtain ⟨i_, rfl⟩ : ∃ i, e_ = .returned (.int .i64 i) := by obtain ⟨_, _, h_, _⟩ := hX_; exact ⟨_, h_⟩
      go_wp2_with (fail)
      refine bodyPost_end (results_none rfl _ _ _) rfl ?_
      exact CaR.cl hX_ hw hu.out
  · skip
    have p1 : x.d = 1 := by simpa using d1
    have hu : Hid (oe = (seR es cs x.n x.k).2) := hide (by rw [hoe.out]; unfold stE; rw [if_pos p1])
    clear p1
    have fc51 := cell_at rp1 (op_d x)
    have fc52 := cell_at rp1 (op_n x)
    have fc53 := cell_at rp1 (op_r x hx.1)
    have fc54 := cell_at rp1 (op_x x hx.1)
    go_wp2_with (first | (refine wpList_load_part rfl 23 _ rfl (w.heap.size) 0 rfl 23 (irow .u8 p) (0, 0) (irow .u8 p) _ rp0 (all_rowe _) Tryd.underlying23 rfl (infoKy _ hp.1) ?_) | (refine wpList_load_part rfl 23 _ rfl (w.heap.size + 1) 3 rfl 30 (opr x) (0, 0) (irow .u8 x.k) _ rp1 (op_k x hx.1) Tryd.underlying23 rfl (infoKy _ hx.1) ?_) | (refine wpList_load_part rfl 30 _ rfl (w.heap.size + 1) 0 rfl 30 (opr x) (0, 0) (opr x) _ rp1 (all_rowe _) Tryd.underlying30 rfl (op_info _ hx.1) ?_) | fail)
    clear fc51 fc52 fc53 fc54
    refine (a_See x.n hn x.k hx b g _ _ y es cs _ hB).mono ?_
    rintro e_ wc28 hX_
    obtain ⟨i_, rfl⟩ : ∃ i, e_ = .returned (.int .i64 i) := by obtain ⟨_, _, h_, _⟩ := hX_; exact ⟨_, h_⟩
    go_wp2_with (fail)
    refine bodyPost_end (results_none rfl _ _ _) rfl ?_
    exact CaR.cl hX_ hw hu.out
end Go.Proofs.YtlbcdjflcghkeaaDoor
