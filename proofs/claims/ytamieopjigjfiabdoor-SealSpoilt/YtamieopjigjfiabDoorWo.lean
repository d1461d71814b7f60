import Derived.Test.YtamieopjigjfiabDoorProg
import Derived.WalkKit
import Derived.WalkSpells
import Derived.WalkLawsBesides
import Derived.Lib.QuietBelow
import Derived.BigQuiet
import Derived.Test.YtamieopjigjfiabDoorKa
import Derived.Test.YtamieopjigjfiabDoorNn
import Derived.Laws.BytesArg
import Derived.OwnWalk
namespace Go.Proofs.YtamieopjigjfiabDoor
set_option maxRecDepth 100000
open Go Go.RowKit Go.Sort
attribute [local go_sem] setCell_drewN alloc_drewN

/-- The marks behind what is handed. -/
def mk4 (k : Nat) : List Int := (List.range k).map fun (i : Nat) => 100 + (i : Int)
theorem mk4_len (k : Nat) : (mk4 k).length = k := by simp [mk4]
theorem mk4_get (k i : Nat) (h : i < k) : (mk4 k).getD i 0 = 100 + (i : Int) := by
  simp [mk4, List.getD_eq_getElem?_getD, List.getElem?_map, List.getElem?_range h]
/-- Some marks are there, zeros behind them. -/
def mz (k : Nat) : List Int := mk4 k ++ zr (80 - k)
theorem mz_len (k : Nat) (h : k ≤ 80) : (mz k).length = 80 := by simp [mz, mk4_len, zr_len]; omega
theorem mz_set (k : Nat) (h : k < 80) : (mz k).set k (100 + (k : Int)) = mz (k + 1) := by
  have e1 : zr (80 - k) = 0 :: zr (80 - (k + 1)) := by
    rw [show 80 - k = (80 - (k + 1)) + 1 by omega]; rfl
  have e2 : mk4 (k + 1) = mk4 k ++ [100 + (k : Int)] := by simp [mk4, List.range_succ]
  rw [mz, mz, e1, e2, List.set_append_right _ _ (by rw [mk4_len]; exact Nat.le_refl _), mk4_len, Nat.sub_self, List.set_cons_zero, List.append_assoc]
  rfl
theorem bmz_set (bs : List Int) (k : Nat) (h : k < 80) : (bs ++ mz k).set (bs.length + k) (100 + (k : Int)) = bs ++ mz (k + 1) := by
  rw [List.set_append_right _ _ (by omega), Nat.add_sub_cancel_left, mz_set k h]
/-- The bytes turned about and changed. -/
def tn4 (bs : List Int) : List Int := xl bs.reverse 51
theorem tn4_len (bs : List Int) : (tn4 bs).length = bs.length := by simp [tn4, xl_len]
theorem tn4_bd (bs : List Int) : ∀ z ∈ tn4 bs, 0 ≤ z ∧ z < 256 := xl_bd _ _
theorem tn4_get (bs : List Int) (i : Nat) (h : i < bs.length) : (tn4 bs).getD i 0 = bits .xor .u8 (bs.getD (bs.length - 1 - i) 0) 51 := by
  rw [tn4, xl_get _ _ _ (by simpa using h), List.getD_eq_getElem?_getD, List.getElem?_reverse h, List.getD_eq_getElem?_getD]
theorem make_len (n : Nat) (hn : n ≤ 140737488355328) (w : World) : (Instr.makeSlice 26 (.int .i64 (n : Int)) (.int .i64 (n : Int))).run Tryd.prog w = .ok (.slice (some ⟨w.heap.size, 0, none⟩) n n) (w.alloc (.cells (irow .u8 (zr n)) 5)) := make_i64 n (by omega) w
theorem conv_bys {W : World} {v : Value} {bs : List Int} (h : Bys W v bs) : (convert 26 9 v).run Tryd.prog W = .ok (.string (strOfNums bs)) W := by
  obtain ⟨ao, cap, rfl, _, hc, _⟩ := h
  cases ao with
  | none =>
    have : bs = [] := by
      cases bs with
      | nil => rfl
      | cons x xs => obtain ⟨b, off, e, _⟩ := hc 0 (by simp); cases e
    subst this
    exact run_convert_bytes_nil W 26 5 Tryd.underlying26 Tryd.underlying5 _ _ 9 Tryd.underlying9
  | some ad =>
    rcases Nat.eq_zero_or_pos bs.length with e0 | e0
    · have : bs = [] := List.eq_nil_of_length_eq_zero e0
      subst this
      obtain ⟨b, off, sp⟩ := ad
      rw [run_convert_bytes_string W 26 9 5 _ _ _ Tryd.underlying26 Tryd.underlying5 Tryd.underlying9]
      have := run_bytesToString (P := Tryd.prog) W ⟨b, off, sp⟩ 0 cap [] (by rfl)
      exact this
    · obtain ⟨b, off, e, _⟩ := hc 0 e0
      cases e
      exact run_convert_bytes_arg W 26 5 Tryd.underlying26 Tryd.underlying5 b off bs.length cap bs rfl (fun i hi => by
        obtain ⟨b', off', e, _, h⟩ := hc i hi
        cases e
        exact h) 9 Tryd.underlying9
theorem str_inj {a b : List Int} (ha : ∀ z ∈ a, 0 ≤ z ∧ z < 256) (hb : ∀ z ∈ b, 0 ≤ z ∧ z < 256) (h : strOfNums a = strOfNums b) : a = b := by
  have h1 := congrArg (fun x => x.data.toList) h
  simp only [strOfNums_data] at h1
  have key : ∀ (a b : List Int), (∀ z ∈ a, 0 ≤ z ∧ z < 256) → (∀ z ∈ b, 0 ≤ z ∧ z < 256) → a.map (fun n => UInt8.ofNat n.toNat) = b.map (fun n => UInt8.ofNat n.toNat) → a = b := by
    intro a
    induction a with
    | nil => intro b _ _ h; cases b with
      | nil => rfl
      | cons y ys => simp at h
    | cons x xs ih => intro b ha hb h; cases b with
      | nil => simp at h
      | cons y ys =>
        simp only [List.map_cons, List.cons.injEq] at h
        have hx := ha x (by simp)
        have hy := hb y (by simp)
        have e := congrArg UInt8.toNat h.1
        simp only [UInt8.toNat_ofNat'] at e
        rw [Nat.mod_eq_of_lt (by omega), Nat.mod_eq_of_lt (by omega)] at e
        have exy : x = y := by omega
        rw [exy, ih ys (fun z h => ha z (by simp [h])) (fun z h => hb z (by simp [h])) h.2]
  exact key a b ha hb h1
theorem str_dec {a b : List Int} (ha : ∀ z ∈ a, 0 ≤ z ∧ z < 256) (hb : ∀ z ∈ b, 0 ≤ z ∧ z < 256) : ((strOfNums a).toList == (strOfNums b).toList) = decide (a = b) := by
  by_cases h : a = b
  · subst h; simp
  · rw [decide_eq_false h, beq_eq_false_iff_ne]
    intro e
    rw [ByteArray.toList_eq, ByteArray.toList_eq] at e
    exact h (str_inj ha hb (Go.WideShapes.bytes_inj e))
end Go.Proofs.YtamieopjigjfiabDoor

namespace Go.Proofs.YtamieopjigjfiabDoor
set_option maxRecDepth 100000
open Go Go.RowKit Go.Sort
attribute [local go_sem] setCell_drewN alloc_drewN

/-- A call that answers v in every world that keeps what was in w. -/
def GivesB (w : World) (f : FuncId) (args : Array Value) (v : Value) : Prop := ∀ W, Below w.heap.size w W → Calls Tryd.prog f args W fun e w' => e = .returned v ∧ Below W.heap.size W w'
theorem GivesB.keep {w W : World} {f : FuncId} {args : Array Value} {v : Value} (h : GivesB w f args v) (hb : Below w.heap.size w W) : GivesB W f args v := fun V hV => h V (Below.after hb hV)
theorem GivesB.re {w : World} {f : FuncId} {args : Array Value} {v : Value} (h : GivesB w f args v) {d : Nat} {os : Array Obj} : Calls Tryd.prog f args (grow (redrawn w d) os) fun e w'' => e = .returned v ∧ ∃ p : Regrown, w'' = grow (redrawn w p.d) p.os := Calls.regrown_of (h _ (below_regrown w d os))
theorem GivesB.at {w : World} {f : FuncId} {args : Array Value} {v : Value} (h : GivesB w f args v) : Calls Tryd.prog f args w fun e w' => e = .returned v ∧ Below w.heap.size w w' := h w (Below.refl _ _)
theorem bits_nat8 (op : BinOp) (x y : Int) (hx : 0 ≤ x ∧ x < 256) (hy : 0 ≤ y ∧ y < 256) : (op = .or → bits op .u8 x y = ((x.toNat ||| y.toNat : Nat) : Int)) ∧ (op = .xor → bits op .u8 x y = ((x.toNat ^^^ y.toNat : Nat) : Int)) := by
  have e1 : (BitVec.ofInt 8 x).toNat = x.toNat := by
    rw [BitVec.toNat_ofInt, Int.emod_eq_of_lt hx.1 (by simpa using hx.2)]
  have e2 : (BitVec.ofInt 8 y).toNat = y.toNat := by
    rw [BitVec.toNat_ofInt, Int.emod_eq_of_lt hy.1 (by simpa using hy.2)]
  have l1 : x.toNat < 2 ^ 8 := by omega
  have l2 : y.toNat < 2 ^ 8 := by omega
  constructor
  · rintro rfl
    have hl := Nat.or_lt_two_pow l1 l2
    show IntKind.u8.wrap (((BitVec.ofInt 8 x ||| BitVec.ofInt 8 y).toNat : Nat) : Int) = _
    rw [BitVec.toNat_or, e1, e2, wrap8 _ (by omega) (by omega)]
  · rintro rfl
    have hl := Nat.xor_lt_two_pow l1 l2
    show IntKind.u8.wrap (((BitVec.ofInt 8 x ^^^ BitVec.ofInt 8 y).toNat : Nat) : Int) = _
    rw [BitVec.toNat_xor, e1, e2, wrap8 _ (by omega) (by omega)]
theorem or8_zero (x y : Int) (hx : 0 ≤ x ∧ x < 256) (hy : 0 ≤ y ∧ y < 256) : bits .or .u8 x y = 0 ↔ x = 0 ∧ y = 0 := by
  rw [(bits_nat8 .or x y hx hy).1 rfl]
  constructor
  · intro h
    have h2 : x.toNat ||| y.toNat = 0 := by omega
    rw [Nat.or_eq_zero_iff] at h2
    omega
  · rintro ⟨rfl, rfl⟩
    rfl
theorem xor8_zero (x y : Int) (hx : 0 ≤ x ∧ x < 256) (hy : 0 ≤ y ∧ y < 256) : bits .xor .u8 x y = 0 ↔ x = y := by
  rw [(bits_nat8 .xor x y hx hy).2 rfl]
  constructor
  · intro h
    have h2 : x.toNat ^^^ y.toNat = 0 := by omega
    have h3 := congrArg (fun n => n ^^^ y.toNat) h2
    simp only [Nat.xor_assoc, Nat.xor_self, Nat.xor_zero, Nat.zero_xor] at h3
    omega
  · rintro rfl
    simp
/-- What is unlike in the first k. -/
def un (a b : List Int) : Nat → Int
  | 0 => 0
  | k + 1 => bits .or .u8 (un a b k) (bits .xor .u8 (a.getD k 0) (b.getD k 0))
theorem bits8_bd' (op : BinOp) (a b : Int) : 0 ≤ bits op .u8 a b ∧ bits op .u8 a b < 256 := by
  unfold bits
  simp only [IntKind.wrap, IntKind.bits, IntKind.signed]
  constructor
  · exact Int.emod_nonneg _ (by decide)
  · exact Int.emod_lt_of_pos _ (by decide)
theorem un_bd (a b : List Int) : ∀ k, 0 ≤ un a b k ∧ un a b k < 256
  | 0 => by simp [un]
  | k + 1 => bits8_bd' _ _ _
theorem un_zero {a b : List Int} (ha : ∀ z ∈ a, 0 ≤ z ∧ z < 256) (hb : ∀ z ∈ b, 0 ≤ z ∧ z < 256) : ∀ k, un a b k = 0 ↔ ∀ i, i < k → a.getD i 0 = b.getD i 0
  | 0 => by simp [un]
  | k + 1 => by
    rw [un, or8_zero _ _ (un_bd a b k) (bits8_bd' _ _ _), xor8_zero _ _ (getD_bd ha k) (getD_bd hb k), un_zero ha hb k]
    constructor
    · rintro ⟨h1, h2⟩ i hi
      rcases Nat.lt_or_ge i k with q | q
      · exact h1 i q
      · obtain rfl : i = k := by omega
        exact h2
    · exact fun h => ⟨fun i hi => h i (by omega), h k (by omega)⟩
theorem un_eq {a b : List Int} (ha : ∀ z ∈ a, 0 ≤ z ∧ z < 256) (hb : ∀ z ∈ b, 0 ≤ z ∧ z < 256) (hl : a.length = b.length) : decide (un a b a.length = 0) = decide (a = b) := by
  congr 1
  rw [eq_iff_iff, un_zero ha hb]
  constructor
  · intro h
    apply List.ext_getElem hl
    intro i h1 h2
    have := h i h1
    rw [List.getD_eq_getElem?_getD, List.getD_eq_getElem?_getD, List.getElem?_eq_getElem h1, List.getElem?_eq_getElem h2] at this
    exact this
  · rintro rfl i _
    rfl
set_option maxRecDepth 100000 in
set_option maxHeartbeats 4000000 in
theorem a_same (a b : List Int) (w : World) (u v : Value) (hu : Bys w u a) (hv : Bys w v b) : Calls Tryd.prog 16 #[u, v] w fun e w' => e = .returned (.bool (decide (a = b))) ∧ Below w.heap.size w w' := by
  have hza := bys_bd hu
  have hzb := bys_bd hv
  obtain ⟨ao, cap, rfl, hla, hca, _⟩ := hu
  obtain ⟨bo, bcap, rfl, hlb, hcb, _⟩ := hv
  by_cases hl : a.length = b.length
  · have hde := un_eq hza hzb hl
    have hnn : ((a.length : Int) != (b.length : Int)) = false := by rw [hl]; simp
    have hun := un_bd a b
    clear hza hzb
    go_enter Tryd.func16, Tryd.ntmps16
    go_wp2
    go_loopw [5, 14] (fun x i wr => ∃ k : Nat, k ≤ a.length ∧ i = .int .i64 k ∧ x = .int .u8 (un a b k) ∧ Below w.heap.size w wr) (fun _ i _ => a.length - (intOf i).toNat)
    case atStart => exact ⟨0, by omega, rfl, rfl, Below.refl _ _⟩
    case round =>
      obtain ⟨k, hk, rfl, rfl, hw⟩ := hrel
      by_cases hlt : k < a.length
      · have hd : decide ((k : Int) < (a.length : Int)) = true := by simp; omega
        have hlt2 : k < b.length := by omega
        obtain ⟨b1, o1, rfl, p1, c1⟩ := hca k hlt
        obtain ⟨b2, o2, rfl, p2, c2⟩ := hcb k hlt2
        replace c1 := (hw.cell (p := ⟨b1, o1 + k, none⟩) p1).trans c1
        replace c2 := (hw.cell (p := ⟨b2, o2 + k, none⟩) p2).trans c2
        have eU : un a b (k + 1) = bits .or .u8 (un a b k) (bits .xor .u8 (a.getD k 0) (b.getD k 0)) := rfl
        replace eU := hide eU
        clear hca hcb hde hnn
        generalize un a b k = U at *
        generalize a.getD k 0 = x at *
        generalize b.getD k 0 = y at *
        go_wp2
        have k1 : ∀ p : Regrown, (grow (redrawn wr p.d) p.os).cell? ⟨b1, o1 + k, none⟩ = some (.int .u8 x) := fun p => cell_regrown (c1) p.d p.os
        have k2 : ∀ p : Regrown, (grow (redrawn wr p.d) p.os).cell? ⟨b2, o2 + k, none⟩ = some (.int .u8 y) := fun p => cell_regrown (c2) p.d p.os
        refine wp_region_quiet_below (by kernel_rfl) (by kernel_rfl) ?_
        go_big_quiet_step (fail)
        go_big_quiet_step (fail)
        go_big_quiet_step (fail)
        go_big_quiet_step (fail)
        go_big_quiet_step (fail)
        go_big_quiet_step (fail)
        go_big_quiet_step (fail)
        go_big_quiet_step (fail)
        go_big_quiet_step (fail)
        go_big_quiet_step (fail)
        go_big_quiet_step (fail)
        go_big_quiet_step (fail)
        refine wpQuiet_nil ?_
        rintro _ ⟨p, rfl⟩
        have hb := below_regrown wr p.d p.os
        generalize grow (redrawn wr p.d) p.os = w2 at *
        clear k1 k2
        replace hw := Below.after hw hb
        clear hb

        go_wp2
        refine ⟨⟨k + 1, by omega, by go_num, by rw [eU.out], hw⟩, ?_⟩
        simp [intOf]; omega
      · obtain rfl : k = a.length := by omega
        have hd : decide ((a.length : Int) < (a.length : Int)) = false := by simp
        have hq : (un a b a.length == 0) = decide (a = b) := by rw [← hde]; rfl
        generalize un a b a.length = U at *
        go_wp2
        go_ret
        exact ⟨rfl, hw⟩
  · have hne : decide (a = b) = false := decide_eq_false (fun h => hl (by rw [h]))
    have hnn : ((a.length : Int) != (b.length : Int)) = true := by rw [bne_iff_ne]; omega
    rw [hne]
    go_enter Tryd.func16, Tryd.ntmps16
    go_wp2
    go_ret
    exact ⟨rfl, Below.refl _ _⟩
theorem flip16 (x : Int) (hx : 0 ≤ x ∧ x < 256) : bits .xor .u8 x 16 ≠ x := by
  rw [(bits_nat8 .xor x 16 hx (by decide)).2 rfl]
  intro h
  have h2 : x.toNat ^^^ 16 = x.toNat := by
    have : (16 : Int).toNat = 16 := rfl
    rw [this] at h
    omega
  have h3 := congrArg (fun n => x.toNat ^^^ n) h2
  simp [← Nat.xor_assoc] at h3
end Go.Proofs.YtamieopjigjfiabDoor
