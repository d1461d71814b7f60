import Derived.Test.YtleeadbceljfbaaGreatDoorProg
import Derived.WalkKit
import Derived.WalkSpells
import Derived.WalkLawsBesides
import Derived.Lib.QuietBelow
import Derived.Laws.BitsAllLaws
import Derived.BigQuiet
import Derived.WalkMore
import Derived.Test.YtleeadbceljfbaaGreatDoorCKa
import Derived.Test.YtleeadbceljfbaaGreatDoorCQd0
import Derived.Test.YtleeadbceljfbaaGreatDoorCQa1
import Derived.Laws.BytesArg
import Derived.Deep.Slices
import Derived.Deep.Cut
import Derived.OwnWalk
import Derived.Lib.SlBytesConst
namespace Go.Proofs.YtleeadbceljfbaaGreatDoor
set_option maxRecDepth 100000
open Go Go.RowKit Go.Sort
attribute [local go_sem] setCell_drewN alloc_drewN
theorem quo_big {m i j : Nat} (h8 : 8 ≤ m) (h : i < j) : 15 < m * 2 ^ j / 2 ^ i := by
 have hp : 0 < 2 ^ i := Nat.pow_pos (by decide)
 rw [show j = (j - i) + i by omega, Nat.pow_add, ← Nat.mul_assoc, Nat.mul_div_cancel _ hp]
 have h1 : 2 ^ 1 ≤ 2 ^ (j - i) := Nat.pow_le_pow_right (by decide) (by omega)
 have := Nat.mul_le_mul h8 h1
 omega
theorem bkt_64 (lo : Nat) (h : lo = 1 ∨ lo = 8) : Bkt lo 64 := by
 rcases h with rfl | rfl
 · exact ⟨by decide, 1, 6, by decide, by decide, by decide⟩
 · exact ⟨by decide, 8, 3, by decide, by decide, by decide⟩
end Go.Proofs.YtleeadbceljfbaaGreatDoor
namespace Go.Proofs.YtleeadbceljfbaaGreatDoor
set_option maxRecDepth 100000
open Go Go.RowKit Go.Sort
attribute [local go_sem] setCell_drewN alloc_drewN
theorem ver_known (ver : Int) (v : Nat) (hv : IntKind.wrap .u64 ver = (v : Int)) (h1 : -9223372036854775808 ≤ ver) (h2 : ver ≤ 9223372036854775807) : (ver == 1 || ver == 2) = known10 v ∧ (known10 v = true → ver = (v : Int) ∧ (v = 1 ∨ v = 2)) := by
 have e : IntKind.wrap .u64 ver = ver % 18446744073709551616 := rfl
 rw [e] at hv
 unfold known10
 rcases Int.decEq ver 1 with q1 | rfl
 · rcases Int.decEq ver 2 with q2 | rfl
   · have c1 : ¬ v = 1 := by omega
     have c2 : ¬ v = 2 := by omega
     have d1 : (ver == 1) = false := by simpa using q1
     have d2 : (ver == 2) = false := by simpa using q2
     have d3 : (v == 1) = false := by simpa using c1
     have d4 : (v == 2) = false := by simpa using c2
     rw [d1, d2, d3, d4]
     simp
   · obtain rfl : v = 2 := by omega
     simp
 · obtain rfl : v = 1 := by omega
   simp
def lno (v : Nat) (n : Int) : Int := if bke v n = 0 then 83 + ((en (bkd (dg v) (4 + n.toNat) + 16)).length : Int) + ((bkd (dg v) (4 + n.toNat) : Int) + 16) else 0
theorem bke_ok {v : Nat} {n : Int} (h : bke v n = 0) : known10 v = true ∧ 0 ≤ n ∧ n ≤ 1048576 := by
 unfold bke at h
 split at h
 · rename_i q
   refine ⟨q, ?_⟩
   split at h
   · cases h
   · split at h
     · cases h
     · omega
 · cases h
theorem bkd_bd (v : Nat) (n : Int) (h0 : 0 ≤ n) (h : n ≤ 1048576) : bkd (dg v) (4 + n.toNat) ≤ 2097160 := by
 have := bkd_le (dg v) (4 + n.toNat) (dg_pos v)
 have : max (4 + n.toNat) 64 ≤ 1048580 := Nat.max_le.2 ⟨by omega, by decide⟩
 omega
theorem ne_dec (v : Nat) (n : Int) (h : ¬ bke v n = 0) : (bke v n == 0) = false := by simp [h]
set_option maxRecDepth 100000 in
set_option maxHeartbeats 4000000 in
theorem a_Length (ver : Int) (v : Nat) (hv : IntKind.wrap .u64 ver = (v : Int)) (hv2 : v < 18446744073709551616) (n : Int) : Gives 27 #[.int .i64 ver, .int .i64 n] (.tuple #[.int .i64 (lno v n), .int .i64 (bke v n)]) := by
 intro w
 have c1 := a_Bucket ver v hv hv2 n
 by_cases hz : bke v n = 0
 · obtain ⟨hk, q1, q2⟩ := bke_ok hz
   have hbd := bkd_bd v n q1 q2
   have e2 : bko v n = (bkd (dg v) (4 + n.toNat) : Int) := by unfold bko; simp [hz]
   have e3 : lno v n = 83 + ((en (bkd (dg v) (4 + n.toNat) + 16)).length : Int) + ((bkd (dg v) (4 + n.toNat) : Int) + 16) := by unfold lno; simp [hz]
   rw [e2, hz] at c1
   rw [e3, hz]
   have c2 := a_size (bkd (dg v) (4 + n.toNat) + 16) (by omega)
   have hl := en_ten (n := bkd (dg v) (4 + n.toNat) + 16) (by omega)
   generalize (en (bkd (dg v) (4 + n.toNat) + 16)).length = len at *
   generalize bkd (dg v) (4 + n.toNat) = b at *
   rw [show ((b + 16 : Nat) : Int) = (b : Int) + 16 by omega] at c2
   clear e2 e3 hz hk
   go_enter Tryz.func27, Tryz.ntmps27
   go_wp2_with (fail)
   refine (c1.at _).mono ?_
   rintro e_ w1 ⟨rfl, hb⟩
   clear c1
   go_wp2_with (fail)
   refine (c2.at _).mono ?_
   rintro e_ w2 ⟨rfl, hb2⟩
   replace hb := Below.after hb hb2
   clear hb2 c2
   go_wp2
   go_ret2
   exact ⟨rfl, hb⟩
 · have e2 : bko v n = 0 := by unfold bko; simp [hz]
   have e3 : lno v n = 0 := by unfold lno; simp [hz]
   have e4 := ne_dec v n hz
   rw [e2] at c1
   rw [e3]
   generalize bke v n = e at *
   clear e2 e3
   go_enter Tryz.func27, Tryz.ntmps27
   go_wp2_with (fail)
   refine (c1.at _).mono ?_
   rintro e_ w1 ⟨rfl, hb⟩
   clear c1
   go_wp2
   go_ret2
   exact ⟨rfl, hb⟩
end Go.Proofs.YtleeadbceljfbaaGreatDoor
namespace Go.Proofs.YtleeadbceljfbaaGreatDoor
set_option maxRecDepth 100000
open Go Go.RowKit Go.Sort
attribute [local go_sem] setCell_drewN alloc_drewN
theorem make_i64 (n : Nat) (h : n ≤ 281474976710656) (W : World) : (Instr.makeSlice 28 (.int .i64 (n : Int)) (.int .i64 (n : Int))).run Tryz.prog W = .ok (.slice (some ⟨W.heap.size, 0, none⟩) n n) (W.alloc (.cells (irow .u8 (zr n)) 5)) := by
 rw [← made_irow]
 exact run_make_row' 28 5 (.int .u8 0) 1 Tryz.underlying28 (by kernel_rfl) rfl .i64 .i64 n (by omega) (by omega) W
theorem getD_append_lt (a b : List Int) (j : Nat) (h : j < a.length) : (a ++ b).getD j 0 = a.getD j 0 := by
 rw [List.getD_eq_getElem?_getD, List.getD_eq_getElem?_getD, List.getElem?_append_left h]
theorem cell_of10 {W : World} {g : Nat} {cs : Array Value} {t : TypeId} (hg : W.heap[g]? = some (.cells cs t (0, 0))) {j : Nat} {v : Value} (h : cs[j]? = some v) : W.cell? ⟨g, j, none⟩ = some v := by
 rw [cell_of_row _ _ _ _ _ _ hg]; exact h
theorem elem810 : Tryz.prog.underlying 28 = some (.slice (Tryz.prog.elem 28)) := by kernel_rfl
theorem size810 (W : World) : (sizeOf (Tryz.prog.elem 28)).run Tryz.prog W = .ok 1 W := by kernel_rfl
def BysM (W : World) (v : Value) (bs : List Int) : Prop := Bys W v bs ∧ bs.length ≤ 211106232532992 ∧ (∀ a l c, v = .slice a l c → a = none → c = 0)
theorem BysM.keep {W W' : World} {v : Value} {bs : List Int} (h : BysM W v bs) (hb : Below W.heap.size W W') : BysM W' v bs := ⟨h.1.keep hb, h.2⟩
theorem Bys.of_prefix {W : World} {g : Nat} {l m : List Int} {t : TypeId} (hg : W.heap[g]? = some (.cells (irow .u8 (l ++ m)) t (0, 0))) (hl : l.length ≤ 9223372036854775807) (hz : ∀ z ∈ l, 0 ≤ z ∧ z < 256) (cap : Nat) : Bys W (.slice (some ⟨g, 0, none⟩) l.length cap) l := by
 refine ⟨_, cap, rfl, hl, fun j hj => ⟨g, 0, rfl, lt_of_row hg, ?_⟩, hz⟩
 rw [Nat.zero_add, irow_cell hg (by rw [List.length_append]; omega), getD_append_lt _ _ _ hj]
def mix (a c : List Int) (k : Nat) : List Int := a.take k ++ c.drop k
theorem mix_zero (a c : List Int) : mix a c 0 = c := by simp [mix]
theorem mix_length (a c : List Int) (k : Nat) (h : a.length = c.length) (hk : k ≤ c.length) : (mix a c k).length = c.length := by simp [mix]; omega
theorem mix_set (a c : List Int) (k : Nat) (h : a.length = c.length) (hk : k < c.length) : (mix a c k).set k (a.getD k 0) = mix a c (k + 1) := by
 apply List.ext_getElem?
 intro j
 have h1 : (a.take k).length = k := by simp; omega
 have h2 : (a.take (k + 1)).length = k + 1 := by simp; omega
 unfold mix
 rw [List.getElem?_set]
 by_cases e : k = j
 · subst e
   rw [if_pos rfl, if_pos (by simp; omega), List.getElem?_append_left (by omega), List.getElem?_take_of_lt (by omega)]
   rw [List.getD_eq_getElem?_getD, List.getElem?_eq_getElem (by omega)]
   rfl
 · rw [if_neg e]
   by_cases hj : j < k
   · rw [List.getElem?_append_left (by omega), List.getElem?_append_left (by omega), List.getElem?_take_of_lt hj, List.getElem?_take_of_lt (by omega)]
   · rw [List.getElem?_append_right (by omega), List.getElem?_append_right (by omega), List.getElem?_drop, List.getElem?_drop, h1, h2]
     congr 1
     omega
def xl (bs : List Int) (x : Int) : List Int := bs.map fun z => bits .xor .u8 z x
theorem xl_len (bs : List Int) (x : Int) : (xl bs x).length = bs.length := by simp [xl]
theorem Bys.grown {W W' : World} {v : Value} {bs : List Int} {g : Nat} (h : Bys W v bs) (hb : W.grownBy W' (some g)) (hne : ∀ a l c, v = .slice (some a) l c → 0 < l → a.block ≠ g) : Bys W' v bs := by
 obtain ⟨ao, cap, rfl, hl, hc, hz⟩ := h
 refine ⟨ao, cap, rfl, hl, fun j hj => ?_, hz⟩
 obtain ⟨b, off, rfl, h1, h2⟩ := hc j hj
 have hn : b ≠ g := hne ⟨b, off, none⟩ _ _ rfl (by omega)
 exact ⟨b, off, rfl, Nat.lt_of_lt_of_le h1 hb.size, hb.cell h2 (by intro e; injection e with e; exact hn e)⟩
theorem bys_bd {W : World} {v : Value} {bs : List Int} (h : Bys W v bs) : ∀ z ∈ bs, 0 ≤ z ∧ z < 256 := by
 obtain ⟨_, _, _, _, _, h⟩ := h; exact h
def NB (W : World) (v : Value) (bs : List Int) : Prop := Bys W v bs ∧ (∀ a l c, v = .slice a l c → a = none → c = 0)
theorem NB.keep {W W' : World} {v : Value} {bs : List Int} (h : NB W v bs) (hb : Below W.heap.size W W') : NB W' v bs := ⟨h.1.keep hb, h.2⟩
theorem NB.grown {W W' : World} {v : Value} {bs : List Int} {row : Option Nat} (h : NB W v bs) (hb : W.grownBy W' row) (hne : ∀ a l c, v = .slice (some a) l c → 0 < l → row ≠ some a.block) : NB W' v bs := by
 obtain ⟨⟨ao, cap, rfl, hl, hc, hz⟩, hn⟩ := h
 refine ⟨⟨ao, cap, rfl, hl, fun j hj => ?_, hz⟩, hn⟩
 obtain ⟨b, off, rfl, h1, h2⟩ := hc j hj
 have hn' := hne ⟨b, off, none⟩ _ _ rfl (by omega)
 exact ⟨b, off, rfl, Nat.lt_of_lt_of_le h1 hb.size, hb.cell h2 (by intro e; exact hn' e.symm)⟩
theorem slice_to (ao : Option Addr) (len cap n : Nat) (h : n ≤ cap) (W : World) : (Instr.sliceAt 28 (.slice ao len cap) none (some (.int .i64 (n : Int))) none).run Tryz.prog W = .ok (.slice ao n cap) W := by
 rw [run_sliceAt_slice _ _ _ _ _ _ elem810, run_slice_h W 28 ao len cap elem810 .i64 _ (by omega) (by omega), size810]
 show Result.ok (sliced _ _ _ _ 1) W = _
 rw [Int.toNat_natCast, sliced, Nat.zero_mul]
 by_cases e : cap = 0
 · rw [if_pos e]; rfl
 · rw [if_neg e]
   cases ao <;> rfl
theorem Bys.take {W : World} {ao : Option Addr} {cap n : Nat} {bs : List Int} (h : Bys W (.slice ao bs.length cap) bs) (hn : n ≤ bs.length) : Bys W (.slice ao n cap) (bs.take n) := by
 obtain ⟨ao', cap', e, hl, hc, hz⟩ := h
 cases e
 have hln : (bs.take n).length = n := by rw [List.length_take]; omega
 refine ⟨ao, cap, by rw [hln], by omega, fun j hj => ?_, fun z h => hz z (List.mem_of_mem_take h)⟩
 obtain ⟨b, off, e, h1, h2⟩ := hc j (by omega)
 refine ⟨b, off, e, h1, ?_⟩
 rw [h2, List.getD_eq_getElem?_getD, List.getD_eq_getElem?_getD, List.getElem?_take_of_lt (by omega)]
def mk4 (k : Nat) : List Int := (List.range k).map fun (i : Nat) => 100 + (i : Int)
theorem mk4_len (k : Nat) : (mk4 k).length = k := by simp [mk4]
theorem mk4_get (k i : Nat) (h : i < k) : (mk4 k).getD i 0 = 100 + (i : Int) := by
 simp [mk4, List.getD_eq_getElem?_getD, List.getElem?_map, List.getElem?_range h]
def mz (k : Nat) : List Int := mk4 k ++ zr (80 - k)
theorem mz_len (k : Nat) (h : k ≤ 80) : (mz k).length = 80 := by simp [mz, mk4_len, zr_len]; omega
theorem mz_set (k : Nat) (h : k < 80) : (mz k).set k (100 + (k : Int)) = mz (k + 1) := by
 have e1 : zr (80 - k) = 0 :: zr (80 - (k + 1)) := by
   rw [show 80 - k = (80 - (k + 1)) + 1 by omega]; rfl
 have e2 : mk4 (k + 1) = mk4 k ++ [100 + (k : Int)] := by simp [mk4, List.range_succ]
 rw [mz, mz, e1, e2, List.set_append_right _ _ (by rw [mk4_len]; exact Nat.le_refl _), mk4_len, Nat.sub_self, List.set_cons_zero, List.append_assoc]
 rfl
theorem bmz_set (bs : List Int) (k : Nat) (h : k < 80) : (bs ++ mz k).set (bs.length + k) (100 + (k : Int)) = bs ++ mz (k + 1) := by
 rw [List.set_append_right _ _ (by omega), Nat.add_sub_cancel_left, mz_set k h]
def tn4 (bs : List Int) : List Int := xl bs.reverse 51
theorem tn4_len (bs : List Int) : (tn4 bs).length = bs.length := by simp [tn4, xl_len]
theorem make_len (n : Nat) (hn : n ≤ 140737488355328) (w : World) : (Instr.makeSlice 28 (.int .i64 (n : Int)) (.int .i64 (n : Int))).run Tryz.prog w = .ok (.slice (some ⟨w.heap.size, 0, none⟩) n n) (w.alloc (.cells (irow .u8 (zr n)) 5)) := make_i64 n (by omega) w
theorem conv_bys10 {W : World} {v : Value} {bs : List Int} (h : Bys W v bs) : (convert 28 9 v).run Tryz.prog W = .ok (.string (strOfNums bs)) W := by
 obtain ⟨ao, cap, rfl, _, hc, _⟩ := h
 cases ao with
 | none =>
   have : bs = [] := by
     cases bs with
     | nil => rfl
     | cons x xs => obtain ⟨b, off, e, _⟩ := hc 0 (by simp); cases e
   subst this
   exact run_convert_bytes_nil W 28 5 Tryz.underlying28 Tryz.underlying5 _ _ 9 Tryz.underlying9
 | some ad =>
   rcases Nat.eq_zero_or_pos bs.length with e0 | e0
   · have : bs = [] := List.eq_nil_of_length_eq_zero e0
     subst this
     obtain ⟨b, off, sp⟩ := ad
     rw [run_convert_bytes_string W 28 9 5 _ _ _ Tryz.underlying28 Tryz.underlying5 Tryz.underlying9]
     have := run_bytesToString (P := Tryz.prog) W ⟨b, off, sp⟩ 0 cap [] (by rfl)
     exact this
   · obtain ⟨b, off, e, _⟩ := hc 0 e0
     cases e
     exact run_convert_bytes_arg W 28 5 Tryz.underlying28 Tryz.underlying5 b off bs.length cap bs rfl (fun i hi => by
       obtain ⟨b', off', e, _, h⟩ := hc i hi
       cases e
       exact h) 9 Tryz.underlying9
theorem str_inj10 {a b : List Int} (ha : ∀ z ∈ a, 0 ≤ z ∧ z < 256) (hb : ∀ z ∈ b, 0 ≤ z ∧ z < 256) (h : strOfNums a = strOfNums b) : a = b := by
 have h1 := congrArg (fun x => x.data.toList) h
 simp only [strOfNums_data] at h1
 have key : ∀ (a b : List Int), (∀ z ∈ a, 0 ≤ z ∧ z < 256) → (∀ z ∈ b, 0 ≤ z ∧ z < 256) → a.map (fun n => UInt8.ofNat n.toNat) = b.map (fun n => UInt8.ofNat n.toNat) → a = b := by
   intro a
   induction a with
   | nil => intro b _ _ h; cases b with
     | nil => rfl
     | cons y ys => simp at h
   | cons x xs ih => intro b ha hb h; cases b with
     | nil => simp at h
     | cons y ys =>
       simp only [List.map_cons, List.cons.injEq] at h
       have hx := ha x (by simp)
       have hy := hb y (by simp)
       have e := congrArg UInt8.toNat h.1
       simp only [UInt8.toNat_ofNat'] at e
       rw [Nat.mod_eq_of_lt (by omega), Nat.mod_eq_of_lt (by omega)] at e
       have exy : x = y := by omega
       rw [exy, ih ys (fun z h => ha z (by simp [h])) (fun z h => hb z (by simp [h])) h.2]
 exact key a b ha hb h1
theorem str_dec10 {a b : List Int} (ha : ∀ z ∈ a, 0 ≤ z ∧ z < 256) (hb : ∀ z ∈ b, 0 ≤ z ∧ z < 256) : ((strOfNums a).toList == (strOfNums b).toList) = decide (a = b) := by
 by_cases h : a = b
 · subst h; simp
 · rw [decide_eq_false h, beq_eq_false_iff_ne]
   intro e
   rw [ByteArray.toList_eq, ByteArray.toList_eq] at e
   exact h (str_inj10 ha hb (Go.WideShapes.bytes_inj e))
set_option maxRecDepth 100000 in
set_option maxHeartbeats 4000000 in
theorem s_same (a b : List Int) (w : World) (u v : Value) (hu : Bys w u a) (hv : Bys w v b) : Calls Tryz.prog 19 #[u, v] w fun e w' => e = .returned (.bool (decide (a = b))) ∧ Below w.heap.size w w' := by
 have c1 := conv_bys10 hu
 have c2 := conv_bys10 hv
 obtain ⟨ao, cap, rfl, _, _, hza⟩ := hu
 obtain ⟨bo, bcap, rfl, _, _, hzb⟩ := hv
 go_enter Tryz.func19, Tryz.ntmps19
 have hd := str_dec10 hza hzb
 go_wp2
 go_ret
 exact ⟨rfl, Below.refl _ _⟩
theorem wpList_append_cases {P : Program} (w : World) {ops : Array Oper} {rest : List Oper} {o : Oper} {a : Act} {Q : Exit → Act → World → Prop} (hgd : o.guard = none) (s x : Operand) (t : TypeId)
   (ho : o.op = .call { callee := .builtin .append, args := #[s, x], argTypes := #[t, t] })
   (base : Nat) (e : TypeId) (i : TypeInfo) (z : Value) (ht : P.underlying t = some (.slice e)) (hi : P.info? e = some i) (hz : i.zero = some z)
   (hsize : i.size = 1) (hby : i.bytes = 1) (hzs : z.cells.size = 1)
   (g n cap : Nat) (xs : List Value) (hs : a.eval s = .slice (some ⟨g, 0, none⟩) n cap) (hown : w.ownsRow base e 1 (.slice (some ⟨g, 0, none⟩) n cap) n xs)
   (ad : Addr) (m c : Nat) (news : List Value) (hx : a.eval x = .slice (some ad) m c) (hl : news.length = m * 1) (hnews : ∀ j u, news[j]? = some u → w.cell? (ad.add j) = some u) (h1 : ∀ u ∈ news, u.oneCell' = true)
   (h63 : n + m ≤ maxLen) (hbytes : (n + m) * 1 ≤ 140737488355328) (hbase : base ≤ w.heap.size)
   (hA : ∀ w', w'.ownsRow base e 1 (.slice (some ⟨g, 0, none⟩) (n + m) cap) (n + m) (xs ++ news) → w.grownBy w' (some g) → wpList P ops Q rest (a.put o.dst (.slice (some ⟨g, 0, none⟩) (n + m) cap)) w')
   (hB : ∀ v' w', w'.ownsRow w.heap.size e 1 v' (n + m) (xs ++ news) → w.grownBy w' none → wpList P ops Q rest (a.put o.dst v') w') : wpList P ops Q (o :: rest) a w := by
 refine wpList_plain hgd fun K hK => ?_
 obtain ⟨v', w', hr, h2, h3, _⟩ := run_append_own (P := P) w base t o.type e i z 1 1 ht hi hz hsize hby hzs (by decide) _ n xs hown ad m c news hl hnews h1 h63 hbytes hbase
 have holds : ∀ j u, xs[j]? = some u → w.cell? ((⟨g, 0, none⟩ : Addr).add j) = some u := hown.cells (g := g) rfl
 rcases hown.2 with ⟨hv, _⟩ | ⟨g1, cap1, cur, hv, hbg, hg, hnc, hcm, hcs, htake⟩
 · cases hv
 · cases hv
   by_cases hroom : n + m ≤ cap
   · have hr2 := run_append_room (P := P) w t o.type e i ht hi g n cap cur hg ad m c news (by rw [hsize]; exact hl) hnews h1 hroom (by rw [hsize, hl, hcs]; omega)
     have hh := hr.symm.trans hr2
     injection hh with e1 e2
     subst e1
     unfold Oper.wp execOp
     simp only [ho, resolve, invoke, builtin, Sem.run_bind, Sem.run_pure, Result.andThen_ok, List.map_toArray, List.map_cons, List.map_nil, hs, hx, hr]
     exact hK _ _ (hA w' h2 h3)
   · have hr2 := run_append_grow (P := P) w t o.type e i z ht hi hz ⟨g, 0, none⟩ n cap xs (by rw [hsize]; exact hown.1) holds ad m c news (by rw [hsize]; exact hl) hnews (by omega) (by simp only [maxLen] at h63; omega) (growslice_fits (by omega) (by rw [hby]; exact hbytes))
     have hh := hr.symm.trans hr2
     injection hh with e1 e2
     have hown2 : w'.ownsRow w.heap.size e 1 v' (n + m) (xs ++ news) := by
       obtain ⟨q1, ⟨hv, _⟩ | ⟨g1, cap1, cur, hv, hbg, hq⟩⟩ := h2
       · rw [e1] at hv; cases hv
       · have hv' := e1.symm.trans hv
         cases hv'
         exact ⟨q1, .inr ⟨w.heap.size, _, cur, hv, Nat.le_refl _, hq⟩⟩
     have hgr : w.grownBy w' none := by
       rw [e2]
       have hq := World.grownBy_alloc w.drew (.cells (xs.toArray ++ news.toArray ++ Builtin.zeroCells z.cells (grownCap w (n + m) cap e - (n + m))) e) none
       exact ⟨hq.os, hq.tape, hq.output, hq.size, hq.block⟩
     unfold Oper.wp execOp
     simp only [ho, resolve, invoke, builtin, Sem.run_bind, Sem.run_pure, Result.andThen_ok, List.map_toArray, List.map_cons, List.map_nil, hs, hx, hr]
     exact hK _ _ (hB v' w' hown2 hgr)
theorem or_lower {W : World} {b c n : Nat} {e : TypeId} {v : Value} {ys : List Value} (h : W.ownsRow b e 1 v n ys) (hc : c ≤ b) : W.ownsRow c e 1 v n ys := by
 obtain ⟨q1, q2 | ⟨g1, cap1, cur, hv, hbg, hq⟩⟩ := h
 · exact ⟨q1, .inl q2⟩
 · exact ⟨q1, .inr ⟨g1, cap1, cur, hv, Nat.le_trans hc hbg, hq⟩⟩
theorem or_cell {W : World} {b g m c t : Nat} {e : TypeId} {l : List Int} (h : W.ownsRow b e 1 (.slice (some ⟨g, 0, none⟩) m c) m (l.map (Value.int .u8))) (ht : t < m) : W.cell? ⟨g, t, none⟩ = some (.int .u8 (l.getD t 0)) ∧ W.frozen? ⟨g, t, none⟩ = false := by
 obtain ⟨q1, ⟨hv, _⟩ | ⟨g1, cap1, cur, hv, hbg, hg, hnc, hcm, hcs, htake⟩⟩ := h
 · cases hv
 · cases hv
   rw [List.length_map] at q1
   refine ⟨?_, row_frozen hg t⟩
   rw [cell_of_row _ _ _ _ _ _ hg]
   have h1 : (cur.toList.take (m * 1))[t]? = (l.map (Value.int .u8))[t]? := by rw [htake]
   rw [List.getElem?_take_of_lt (by omega), List.getElem?_map, List.getElem?_eq_getElem (show t < l.length by omega)] at h1
   rw [← Array.getElem?_toList, h1, List.getD_eq_getElem?_getD, List.getElem?_eq_getElem (show t < l.length by omega)]
   rfl
theorem or_set {W : World} {b g m c t : Nat} {e : TypeId} {l : List Int} {z : Int} (h : W.ownsRow b e 1 (.slice (some ⟨g, 0, none⟩) m c) m (l.map (Value.int .u8))) : (W.setCell ⟨g, t, none⟩ (.int .u8 z)).ownsRow b e 1 (.slice (some ⟨g, 0, none⟩) m c) m ((l.set t z).map (Value.int .u8)) ∨ m ≤ t := by
 by_cases ht : m ≤ t
 · exact .inr ht
 refine .inl ?_
 obtain ⟨q1, ⟨hv, _⟩ | ⟨g1, cap1, cur, hv, hbg, hg, hnc, hcm, hcs, htake⟩⟩ := h
 · cases hv
 · cases hv
   refine ⟨by rw [List.length_map, List.length_set]; rw [List.length_map] at q1; exact q1, .inr ⟨g, c, cur.setIfInBounds t (.int .u8 z), rfl, hbg, heap_setCell_same W g t cur _ (.int .u8 z) hg, hnc, hcm, by rw [Array.size_setIfInBounds]; exact hcs, ?_⟩⟩
   rw [Array.toList_setIfInBounds, List.take_set, htake, List.map_set]
theorem or_prefix {W : World} {b g m j c : Nat} {e : TypeId} {xs ys : List Value} (h : W.ownsRow b e 1 (.slice (some ⟨g, 0, none⟩) (m + j) c) (m + j) (xs ++ ys)) (hl : xs.length = m) : W.ownsRow b e 1 (.slice (some ⟨g, 0, none⟩) m c) m xs := by
 obtain ⟨q1, ⟨hv, _⟩ | ⟨g1, cap1, cur, hv, hbg, hg, hnc, hcm, hcs, htake⟩⟩ := h
 · cases hv
 · cases hv
   refine ⟨by omega, .inr ⟨g, c, cur, rfl, hbg, hg, by omega, hcm, hcs, ?_⟩⟩
   have h2 := congrArg (List.take m) htake
   rw [List.take_take, List.take_left' hl] at h2
   rw [← h2]
   congr 1
   omega
theorem or_move {W V : World} {b g m c : Nat} {e : TypeId} {xs : List Value} {ob : Option Nat} (h : W.ownsRow b e 1 (.slice (some ⟨g, 0, none⟩) m c) m xs) (hg : W.grownBy V ob) (hx : ob ≠ some g) : V.ownsRow b e 1 (.slice (some ⟨g, 0, none⟩) m c) m xs := by
 obtain ⟨q1, ⟨hv, _⟩ | ⟨g1, cap1, cur, hv, hbg, hr, hq⟩⟩ := h
 · cases hv
 · cases hv
   exact ⟨q1, .inr ⟨g, c, cur, rfl, hbg, (hg.block g (lt_of_row hr) (fun e => hx e.symm)).trans hr, hq⟩⟩
theorem or_high {W : World} {b g m c : Nat} {e : TypeId} {xs : List Value} (h : W.ownsRow b e 1 (.slice (some ⟨g, 0, none⟩) m c) m xs) : g < W.heap.size ∧ b ≤ g := by
 obtain ⟨q1, ⟨hv, _⟩ | ⟨g1, cap1, cur, hv, hbg, hr, hq⟩⟩ := h
 · cases hv
 · cases hv
   exact ⟨lt_of_row hr, hbg⟩
theorem or_other {W : World} {b g g' m c t : Nat} {e : TypeId} {xs : List Value} {v : Value} (h : W.ownsRow b e 1 (.slice (some ⟨g, 0, none⟩) m c) m xs) (hx : g ≠ g') : (W.setCell ⟨g', t, none⟩ v).ownsRow b e 1 (.slice (some ⟨g, 0, none⟩) m c) m xs := by
 obtain ⟨q1, ⟨hv, _⟩ | ⟨g1, cap1, cur, hv, hbg, hr, hq⟩⟩ := h
 · cases hv
 · cases hv
   exact ⟨q1, .inr ⟨g, c, cur, rfl, hbg, heap_other hr hx, hq⟩⟩
def apV (x : Option Nat × Nat × Nat) : Value := match x.1 with
 | some g => .slice (some ⟨g, 0, none⟩) x.2.1 x.2.2
 | none => .slice none 0 0
def apN (x : Option Nat × Nat × Nat) : Nat := match x.1 with
 | some _ => x.2.1
 | none => 0
def apC (x : Option Nat × Nat × Nat) : Nat := match x.1 with
 | some _ => x.2.2
 | none => 0
def apA (x : Option Nat × Nat × Nat) : Option Addr := x.1.map fun g => ⟨g, 0, none⟩
theorem apV_eq (x : Option Nat × Nat × Nat) : apV x = .slice (apA x) (apN x) (apC x) := by
 obtain ⟨_ | g, m, c⟩ := x <;> rfl
def ApR (lo : Nat) (W : World) (xs : List (Option Nat × Nat × Nat)) (P : Nat → List Int → Prop) : Prop := ∀ (j g m c : Nat), xs[j]? = some (some g, m, c) → ∃ l : List Int, l.length = m ∧ W.ownsRow lo 5 1 (.slice (some ⟨g, 0, none⟩) m c) m (l.map (Value.int .u8)) ∧ P j l
def ApD (xs : List (Option Nat × Nat × Nat)) : Prop := ∀ (i j : Nat) (g m n c d : Nat), xs[i]? = some (some g, m, c) → xs[j]? = some (some g, n, d) → i = j
theorem ApR.mono {lo : Nat} {W : World} {xs : List (Option Nat × Nat × Nat)} {P Q : Nat → List Int → Prop} (h : ApR lo W xs P) (hq : ∀ (j : Nat) l g m c, xs[j]? = some (some g, m, c) → l.length = m → P j l → Q j l) : ApR lo W xs Q := fun j g m c hj => by
 obtain ⟨l, h1, h2, h3⟩ := h j g m c hj
 exact ⟨l, h1, h2, hq _ _ _ _ _ hj h1 h3⟩
theorem ApR.moved {lo : Nat} {W W' : World} {xs : List (Option Nat × Nat × Nat)} {P : Nat → List Int → Prop} {ob : Option Nat} (h : ApR lo W xs P) (hb : W.grownBy W' ob) (hx : ∀ (j g m c : Nat), xs[j]? = some (some g, m, c) → ob ≠ some g) : ApR lo W' xs P := fun j g m c hj => by
 obtain ⟨l, h1, h2, h3⟩ := h j g m c hj
 exact ⟨l, h1, or_move h2 hb (hx j g m c hj), h3⟩
theorem ApR.put {lo : Nat} {W : World} {xs : List (Option Nat × Nat × Nat)} {P Q : Nat → List Int → Prop} (h : ApR lo W xs P) (hd : ApD xs) {k g m c t : Nat} {z : Int} (hk : xs[k]? = some (some g, m, c)) (ht : t < m) (hp : ∀ l, l.length = m → P k l → Q k (l.set t z)) (hq : ∀ j l, j ≠ k → P j l → Q j l) : ApR lo (W.setCell ⟨g, t, none⟩ (.int .u8 z)) xs Q := fun j g' m' c' hj => by
 obtain ⟨l, h1, h2, h3⟩ := h j g' m' c' hj
 by_cases e : g' = g
 · subst e
   obtain rfl := hd _ _ _ _ _ _ _ hk hj
   obtain ⟨_, rfl, rfl⟩ : True ∧ m = m' ∧ c = c' := ⟨trivial, by rw [hk] at hj; cases hj; exact ⟨rfl, rfl⟩⟩
   refine ⟨l.set t z, by rw [List.length_set]; exact h1, (or_set h2).resolve_right (by omega), hp l h1 h3⟩
 · refine ⟨l, h1, or_other h2 e, hq j l (fun ej => e ?_) h3⟩
   subst ej
   rw [hk] at hj
   cases hj
   rfl
theorem getD_set_if6 (l : List Int) (t u : Nat) (z : Int) (h : t < l.length) : (l.set t z).getD u 0 = if u = t then z else l.getD u 0 := by
 rw [List.getD_eq_getElem?_getD, List.getD_eq_getElem?_getD, List.getElem?_set]
 by_cases e : t = u
 · subst e; simp [h]
 · rw [if_neg e, if_neg (Ne.symm e)]
theorem ap_some {x : Option Nat × Nat × Nat} {t : Nat} (h : t < apN x) : ∃ g m c, x = (some g, m, c) := by
 obtain ⟨_ | g, m, c⟩ := x
 · simp [apN] at h
 · exact ⟨g, m, c, rfl⟩
theorem ap_row {W : World} {gl : Nat} {xs : List (Option Nat × Nat × Nat)} (hg : W.heap[gl]? = some (.cells (xs.map apV).toArray 28 (0, 0))) (i : Nat) (hi : i < xs.length) : W.cell? ⟨gl, i, none⟩ = some (.slice (apA (xs.getD i (none, 0, 0))) (apN (xs.getD i (none, 0, 0))) (apC (xs.getD i (none, 0, 0)))) := by
 rw [cell_of10 hg (show (xs.map apV).toArray[i]? = some (apV (xs.getD i (none, 0, 0))) by rw [List.getElem?_toArray, List.getElem?_map, List.getElem?_eq_getElem hi, List.getD_eq_getElem?_getD, List.getElem?_eq_getElem hi]; rfl), apV_eq]
end Go.Proofs.YtleeadbceljfbaaGreatDoor
namespace Go.Proofs.YtleeadbceljfbaaGreatDoor
set_option maxRecDepth 100000
open Go Go.RowKit Go.Sort
attribute [local go_sem] setCell_drewN alloc_drewN
theorem grown_below {a b c : World} {g : Nat} (h : a.grownBy b (some g)) (hb : Below b.heap.size b c) : a.grownBy c (some g) :=
 ⟨hb.os.trans h.os, hb.tape.trans h.tape, hb.output.trans h.output, Nat.le_trans h.size hb.size, fun k hk hn => (hb.block k (Nat.lt_of_lt_of_le hk h.size)).trans (h.block k hk hn)⟩
theorem grown_setRow {a b : World} {g : Nat} (cs : Array Value) (h : a.grownBy b (some g)) : a.grownBy (b.setRow g cs) (some g) := by
 refine ⟨h.os, h.tape, h.output, ?_, fun k hk hn => ?_⟩
 · have e : (b.setRow g cs).heap.size = b.heap.size := by simp
   rw [e]; exact h.size
 · rw [setRow_other b g k cs (fun e => hn (by rw [e]))]
   exact h.block k hk hn
theorem slice_rest (b0 o m c n : Nat) (h : n ≤ m) (hc : m ≤ c) : ∃ ao2 : Option Addr, (n < m → ao2 = some ⟨b0, o + n, none⟩) ∧ ∀ W, (Instr.sliceAt 28 (.slice (some ⟨b0, o, none⟩) m c) (some (.int .i64 (n : Int))) none none).run Tryz.prog W = .ok (.slice ao2 (m - n) (c - n)) W := by
 refine ⟨if c = n then some ⟨b0, o, none⟩ else some ⟨b0, o + n, none⟩, fun hn => if_neg (by omega), fun W => ?_⟩
 rw [run_sliceAt_slice _ _ _ _ _ _ elem810, run_slice_l W 28 (some ⟨b0, o, none⟩) m c elem810 .i64 _ (by omega) (by omega), size810]
 show Result.ok (sliced _ _ _ _ 1) W = _
 rw [Int.toNat_natCast, sliced, Nat.mul_one, Option.map_some, addr_add]
theorem mix_all (a c : List Int) (h : a.length = c.length) : mix a c c.length = a := by
 unfold mix
 rw [← h, List.take_length, h, List.drop_length, List.append_nil]
theorem bys_rowF {W : World} {g n : Nat} {l : List Int} {t : TypeId} {fr : Nat × Nat} (hg : W.heap[g]? = some (.cells (irow .u8 l) t fr)) (hl : l.length ≤ 9223372036854775807) (hz : ∀ z ∈ l, 0 ≤ z ∧ z < 256) (hn : l.length = n) {cap : Nat} : Bys W (.slice (some ⟨g, 0, none⟩) n cap) l := by
 subst hn
 refine ⟨_, _, rfl, hl, fun j hj => ⟨g, 0, rfl, lt_of_row hg, ?_⟩, hz⟩
 rw [Nat.zero_add, cell_of_row _ _ _ _ _ _ hg]
 simp [irow, List.getD_eq_getElem?_getD, List.getElem?_eq_getElem hj]
theorem own_ap {W : World} {b : Nat} {v : Value} {d : List B} (h : Own W b v d) : ∃ x : Option Nat × Nat × Nat, v = apV x ∧ ∀ g m c, x = (some g, m, c) → m = d.length ∧ b ≤ g ∧ g < W.heap.size ∧ W.ownsRow b 5 1 (.slice (some ⟨g, 0, none⟩) m c) m ((bl d).map (Value.int .u8)) := by
 have h0 : W.ownsRow b 5 1 v d.length ((bl d).map (Value.int .u8)) := h
 obtain ⟨q1, ⟨hv, _⟩ | ⟨g1, cap1, cur, hv, hbg, hg, hq⟩⟩ := h
 · exact ⟨(none, 0, 0), hv, fun g m c e => by cases e⟩
 · refine ⟨(some g1, d.length, cap1), hv, fun g m c e => ?_⟩
   cases e
   rw [hv] at h0
   exact ⟨rfl, hbg, lt_of_row hg, h0⟩
theorem oth_bys (W : World) : BysB (W.alloc (.cells #[.int .u8 111, .int .u8 116, .int .u8 104, .int .u8 101, .int .u8 114] 5 (5, 6))) (.slice (some ⟨W.heap.size, 0, none⟩) 5 5) [111#8, 116#8, 104#8, 101#8, 114#8] := ⟨bys_rowF (l := bl [111#8, 116#8, 104#8, 101#8, 114#8]) (hp1_0 W _) (by decide) (bl_bnd _) rfl, by decide, fun a l c h h2 => by cases h; cases h2⟩
theorem head_bysB {W : World} {g n : Nat} {e : List B} {m : List Int} {t : TypeId} (hg : W.heap[g]? = some (.cells (irow .u8 (bl e ++ m)) t (0, 0))) (hn : e.length = n) (hl : n ≤ 140737488355000) (cap : Nat) : BysB W (.slice (some ⟨g, 0, none⟩) n cap) e := by
 have h := Bys.of_prefix hg (by rw [bl_len]; omega) (bl_bnd e) cap
 rw [bl_len, hn] at h
 exact ⟨h, by omega, fun a l c h h2 => by cases h; cases h2⟩
theorem row_bysB {W : World} {g n : Nat} {e : List B} {t : TypeId} (hg : W.heap[g]? = some (.cells (irow .u8 (bl e)) t (0, 0))) (hn : e.length = n) (hl : n ≤ 140737488355000) (cap : Nat) : BysB W (.slice (some ⟨g, 0, none⟩) n cap) e := head_bysB (m := []) (by rw [List.append_nil]; exact hg) hn hl cap
theorem rv_len (bs : List Int) : bs.reverse.length = bs.length := by simp
theorem rv_get (bs : List Int) (k : Nat) (h : k < bs.length) : bs.reverse.getD k 0 = bs.getD (bs.length - 1 - k) 0 := by
 rw [List.getD_eq_getElem?_getD, List.getD_eq_getElem?_getD, List.getElem?_reverse h]
theorem rv_bd (bs : List Int) (h : ∀ z ∈ bs, 0 ≤ z ∧ z < 256) : ∀ z ∈ bs.reverse, 0 ≤ z ∧ z < 256 := fun z hz => h z (by simpa using hz)
theorem bl_rev (e : List B) : bl e.reverse = (bl e).reverse := by simp [bl, List.map_reverse]
theorem sB_same (a b : List B) (w : World) (u v : Value) (hu : Bys w u (bl a)) (hv : Bys w v (bl b)) : Calls Tryz.prog 19 #[u, v] w fun e w' => e = .returned (.bool (decide (a = b))) ∧ Below w.heap.size w w' := by
 have h := s_same (bl a) (bl b) w u v hu hv
 rw [bl_dec] at h
 exact h
end Go.Proofs.YtleeadbceljfbaaGreatDoor
namespace Go.Proofs.YtleeadbceljfbaaGreatDoor
set_option maxRecDepth 100000
open Go Go.RowKit Go.Sort
attribute [local go_sem] setCell_drewN alloc_drewN
def pdk (l k b : Nat) : List Int := ((List.range k).map fun i => ((l / 256 ^ i % 256 : Nat) : Int)) ++ zr (b - k)
theorem pdk_len (l k b : Nat) (h : k ≤ b) : (pdk l k b).length = b := by simp [pdk, zr_len]; omega
theorem pdk_zero (l b : Nat) : pdk l 0 b = zr b := by simp [pdk]
theorem pdk_set (l k b : Nat) (h : k < b) : (pdk l k b).set k ((l / 256 ^ k % 256 : Nat) : Int) = pdk l (k + 1) b := by
 have e1 : zr (b - k) = 0 :: zr (b - (k + 1)) := by
   rw [show b - k = (b - (k + 1)) + 1 by omega]; rfl
 unfold pdk
 rw [e1, List.set_append_right _ _ (by simp)]
 simp [List.range_succ]
def pd4 (l : Nat) : List B := [BitVec.ofNat 8 l, BitVec.ofNat 8 (l / 256), BitVec.ofNat 8 (l / 65536), BitVec.ofNat 8 (l / 16777216)]
def pdb (b : Nat) (d : List B) : List B := pd4 d.length ++ d ++ List.replicate (b - 4 - d.length) 0#8
theorem pdb_len (b : Nat) (d : List B) (h : 4 + d.length ≤ b) : (pdb b d).length = b := by simp [pdb, pd4]; omega
theorem pdb_bl (b : Nat) (d : List B) : (pdk d.length 4 b).take 4 ++ bl d ++ (pdk d.length 4 b).drop (4 + (bl d).length) = bl (pdb b d) := by
 rw [bl_len, pdb, bl_app, bl_app, bl_zr, ← List.drop_drop]
 have e0 : pdk d.length 4 b = bl (pd4 d.length) ++ zr (b - 4) := by
   unfold pdk
   congr 1
   simp [List.range_succ, bl, bv, pd4]
 have e1 : (bl (pd4 d.length)).length = 4 := rfl
 rw [e0, List.take_left' e1, List.drop_left' e1, zr_drop]
def pdr (v : Nat) (d : List B) : List B := if bke v (d.length : Int) = 0 then pdb (bkd (dg v) (4 + d.length)) d else []
theorem own_whole {W : World} {g base : Nat} {d : List B} (hg : W.heap[g]? = some (.cells (irow .u8 (bl d)) 5 (0, 0))) (hb : base ≤ g) (hl : d.length ≤ 281474976710656) : Own W base (.slice (some ⟨g, 0, none⟩) d.length d.length) d :=
 ⟨by simp [bl], .inr ⟨g, d.length, _, rfl, hb, hg, Nat.le_refl _, by unfold maxLen; omega, by simp [irow, bl], by simp only [irow, bl, Nat.mul_one]; exact List.take_of_length_le (by simp)⟩⟩
theorem own_none10 (W : World) (b : Nat) : Own W b (.slice none 0 0) [] := ⟨rfl, .inl ⟨rfl, rfl⟩⟩
theorem tmod_nat (q : Nat) : ((q : Nat) : Int).tmod 256 = ((q % 256 : Nat) : Int) := by rw [Int.tmod_eq_emod_of_nonneg (by omega)]; omega
theorem tdiv_nat (q : Nat) : ((q : Nat) : Int).tdiv 256 = ((q / 256 : Nat) : Int) := by rw [Int.tdiv_eq_ediv_of_nonneg (by omega)]; omega
theorem shr_nat (l k : Nat) (hk : k ≤ 3) : (l : Int) / 2 ^ (8 * k) % 256 = ((l / 256 ^ k % 256 : Nat) : Int) := by
 rcases (by omega : k = 0 ∨ k = 1 ∨ k = 2 ∨ k = 3) with rfl | rfl | rfl | rfl <;> omega
set_option maxRecDepth 100000 in
set_option maxHeartbeats 4000000 in
theorem a_Pad (ver : Int) (v : Nat) (hv : IntKind.wrap .u64 ver = (v : Int)) (hv2 : v < 18446744073709551616) (d : List B) (w : World) (dv : Value) (hD : BysB w dv d) : Calls Tryz.prog 16 #[.int .i64 ver, dv] w fun e w' => ∃ u, e = .returned (.tuple #[u, .int .i64 (bke v (d.length : Int))]) ∧ Own w' w.heap.size u (pdr v d) ∧ Below w.heap.size w w' := by
 have c1 := a_Bucket ver v hv hv2 (d.length : Int)
 obtain ⟨ao, cap, rfl⟩ := hD.form
 by_cases hz : bke v (d.length : Int) = 0
 · obtain ⟨hk, q1, q2⟩ := bke_ok hz
   have hbd := bkd_bd v (d.length : Int) q1 q2
   have e2 : bko v (d.length : Int) = (bkd (dg v) (4 + d.length) : Int) := by unfold bko; simp [hz]
   have e3 : pdr v d = pdb (bkd (dg v) (4 + d.length)) d := by unfold pdr; simp [hz]
   have h64 := Nat.lt_of_lt_of_le (show 4 < 64 by decide) (bkd_64 (dg v) (4 + d.length) (dg_pos v) (dg_le v))
   have hge := bkd_ge (dg v) (4 + d.length) (dg_pos v) (dg_le v)
   rw [Int.toNat_natCast] at hbd
   rw [e2, hz] at c1
   rw [e3, hz]
   generalize bkd (dg v) (4 + d.length) = b at *
   have hDh := hide (fun V (h : Below w.heap.size w V) => hD.keep h)
   clear e2 e3 hz hk hD
   have hpb := pdb_bl b d
   have hpl := pdb_len b d hge
   go_enter Tryz.func16, Tryz.ntmps16
   go_wp2_with (fail)
   refine (c1.at _).mono ?_
   rintro e_ w1 ⟨rfl, hw⟩
   clear c1
   have hmk := make_len b (by omega) w1
   have r0 := hp1_0 w1 (.cells (irow .u8 (zr b)) 5)
   replace r0 : (w1.alloc (.cells (irow .u8 (zr b)) 5)).heap[w1.heap.size]? = some (.cells (irow .u8 (pdk d.length 0 b)) 5 (0, 0)) := by rw [pdk_zero]; exact r0
   have hw0 := hw.size
   replace hw := hw.alloc hw.size (.cells (irow .u8 (zr b)) 5)
   have sz := size_alloc1 w1 (.cells (irow .u8 (zr b)) 5)
   go_wp2
   generalize (w1.alloc (.cells (irow .u8 (zr b)) 5)) = w2 at *
   clear hmk
   go_loopw [22, 9] (fun i j wr => ∃ k : Nat, k ≤ 4 ∧ i = .int .i64 k ∧ wr.heap[w1.heap.size]? = some (.cells (irow .u8 (pdk d.length k b)) 5 (0, 0)) ∧ Below w.heap.size w wr) (fun i _ _ => 4 - (intOf i).toNat)
   case atStart => exact ⟨0, by omega, rfl, r0, hw⟩
   case round =>
     clear r0 hw
     obtain ⟨k, hk, rfl, r0, hw⟩ := hrel
     by_cases hlt : k < 4
     · have hd : decide ((k : Int) < 4) = true := by simp; omega
       have cf := row_frozen r0 k
       have cc := irow_cell r0 (j := k) (by rw [pdk_len _ _ _ (by omega)]; omega)
       have r2 := irow_set r0 k ((d.length / 256 ^ k % 256 : Nat) : Int)
       rw [pdk_set _ _ _ (by omega)] at r2
       have hs := shr_nat d.length k (by omega)
       have hw2 := hw.setCell (show w.heap.size ≤ (⟨w1.heap.size, k, none⟩ : Addr).block from hw0) (.int .u8 ((d.length / 256 ^ k % 256 : Nat) : Int))
       clear r0 hw hpb
       generalize (pdk d.length k b).getD k 0 = z at *
       generalize ((d.length / 256 ^ k % 256 : Nat) : Int) = y at *
       go_wp2
       refine ⟨⟨k + 1, by omega, by go_num, r2, hw2⟩, ?_⟩
       simp [intOf]; omega
     · obtain rfl : k = 4 := by omega
       have hd : decide ((4 : Int) < 4) = false := by decide
       obtain ⟨ao2, s1, s2⟩ := slice_rest w1.heap.size 0 b b 4 (by omega) (by omega)
       rw [s1 h64] at s2
       have s3 := s2 wr
       have hBd := (hDh.out _ hw).1
       have hcp := copy_bys (o := 0 + 4) (dLen := b - 4) (dCap := b - 4) r0 hBd (by rw [bl_len]; omega) (by rw [bl_len, pdk_len _ _ _ (by omega)]; omega)
       rw [Nat.zero_add, hpb] at hcp
       have hgo : goInt (bl d).length = .int .i64 (d.length : Int) := by rw [bl_len]; rfl
       rw [hgo] at hcp
       have r1 := setRow_heap _ w1.heap.size _ (irow .u8 (bl (pdb b d))) _ _ r0
       have hw3 := below_setRow hw hw0 (irow .u8 (bl (pdb b d)))
       clear s1 s2 r0 hpb hBd
       go_wp2
       go_ret2
       refine ⟨_, rfl, ?_, hw3⟩
       have := own_whole r1 hw0 (by omega)
       rw [hpl] at this
       exact this
 · have e2 : bko v (d.length : Int) = 0 := by unfold bko; simp [hz]
   have e3 : pdr v d = [] := by unfold pdr; simp [hz]
   have e4 := ne_dec v (d.length : Int) hz
   rw [e2] at c1
   rw [e3]
   generalize bke v (d.length : Int) = e at *
   clear e2 e3
   go_enter Tryz.func16, Tryz.ntmps16
   go_wp2_with (fail)
   refine (c1.at _).mono ?_
   rintro e_ w1 ⟨rfl, hb⟩
   clear c1
   go_wp2
   go_ret2
   exact ⟨_, rfl, own_none10 _ _, hb⟩
end Go.Proofs.YtleeadbceljfbaaGreatDoor
namespace Go.Proofs.YtleeadbceljfbaaGreatDoor
set_option maxRecDepth 100000
open Go Go.RowKit Go.Sort
attribute [local go_sem] setCell_drewN alloc_drewN
def Owns (W : World) : Nat → List (Value × List B) → Nat → Prop
 | lo, [], hi => lo ≤ hi
 | lo, x :: r, hi => ∃ m, lo ≤ m ∧ Own W lo x.1 x.2 ∧ (∀ k, x.1.ownBlock = some k → k < m) ∧ x.2.length ≤ 140737488350000 ∧ Owns W m r hi
theorem Owns.le {W : World} : ∀ {l : List (Value × List B)} {lo hi : Nat}, Owns W lo l hi → lo ≤ hi
 | [], _, _, h => h
 | _ :: _, _, _, ⟨_, h1, _, _, _, h2⟩ => Nat.le_trans h1 h2.le
theorem Owns.ap {W : World} {base : Nat} : ∀ {l : List (Value × List B)} {lo hi : Nat}, base ≤ lo → Owns W lo l hi → ∃ xs : List (Option Nat × Nat × Nat), xs.map apV = l.map Prod.fst ∧ ApR base W xs (fun _ _ => True) ∧ ApD xs ∧ ∀ (i : Nat) g m c, xs[i]? = some (some g, m, c) → lo ≤ g ∧ g < hi ∧ m ≤ 140737488350000
 | [], _, _, _, _ => ⟨[], rfl, fun j g m c h => by simp at h, fun i j g m n c d h => by simp at h, fun i g m c h => by simp at h⟩
 | x :: r, lo, hi, hb, ⟨k, h1, h2, h3, h4, h5⟩ => by
   obtain ⟨xs, q1, q2, q3, q4⟩ := Owns.ap (Nat.le_trans hb h1) h5
   obtain ⟨y, hy, hyy⟩ := own_ap h2
   have hk := h5.le
   have hb1 : ∀ g m c, y = (some g, m, c) → lo ≤ g ∧ g < k := fun g m c e => ⟨(hyy g m c e).2.1, h3 g (by rw [hy, e]; rfl)⟩
   refine ⟨y :: xs, by rw [List.map_cons, List.map_cons, q1, hy], ?_, ?_, ?_⟩
   · intro j g m c hj
     cases j with
     | zero =>
       have e : y = (some g, m, c) := by simpa using hj
       obtain ⟨e1, e2, e3, e4⟩ := hyy g m c e
       exact ⟨bl x.2, by rw [bl_len, e1], or_lower e4 hb, trivial⟩
     | succ j => exact q2 j g m c (by simpa using hj)
   · intro i j g m n c d hi hj
     cases i with
     | zero =>
       cases j with
       | zero => rfl
       | succ j =>
         have := hb1 g m c (by simpa using hi)
         have := q4 j g n d (by simpa using hj)
         omega
     | succ i =>
       cases j with
       | zero =>
         have := hb1 g n d (by simpa using hj)
         have := q4 i g m c (by simpa using hi)
         omega
       | succ j => rw [q3 i j g m n c d (by simpa using hi) (by simpa using hj)]
   · intro i g m c hi'
     cases i with
     | zero =>
       have e : y = (some g, m, c) := by simpa using hi'
       have := hb1 g m c e
       have := (hyy g m c e).1
       omega
     | succ i =>
       have := q4 i g m c (by simpa using hi')
       omega
theorem Owns.keep {W V : World} : ∀ {l : List (Value × List B)} {lo hi : Nat}, Owns W lo l hi → Below W.heap.size W V → Owns V lo l hi
 | [], _, _, h, _ => h
 | _ :: _, _, _, ⟨m, h1, h2, h3, h4, h5⟩, hb => ⟨m, h1, h2.keep hb, h3, h4, h5.keep hb⟩
theorem Owns.snoc {W : World} {v : Value} {L : List B} : ∀ {l : List (Value × List B)} {lo hi : Nat}, Owns W lo l hi → Own W hi v L → L.length ≤ 140737488350000 → (hz : hi ≤ W.heap.size) → Owns W lo (l ++ [(v, L)]) W.heap.size
 | [], lo, hi, h, hO, hl, hz => ⟨W.heap.size, by have : lo ≤ hi := h; omega, own_down hO h, own_high hO, hl, Nat.le_refl _⟩
 | _ :: r, _, _, ⟨m, h1, h2, h3, h4, h5⟩, hO, hl, hz => ⟨m, h1, h2, h3, h4, h5.snoc hO hl hz⟩
end Go.Proofs.YtleeadbceljfbaaGreatDoor
