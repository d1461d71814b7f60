import Derived.Test.YtajaiiidafkijaaDoorProg
import Derived.WalkKit
import Derived.WalkSpells
import Derived.WalkLawsBesides
import Derived.Lib.QuietBelow
import Derived.BigQuiet
import Derived.Test.YtajaiiidafkijaaDoorMKa
import Derived.Test.YtajaiiidafkijaaDoorMEc
import Derived.Test.YtajaiiidafkijaaDoorMDsi
import Derived.ChangeKeysEq
import Derived.Laws.StructEq
import Derived.Deep.OwnRows
import Derived.Laws.CopyOwn
import Derived.OwnWalk
import Derived.Laws.Bits64b
import Derived.Test.YtajaiiidafkijaaDoorMDwc
import Derived.Deep.Cut
import Derived.Test.YtajaiiidafkijaaDoorMAb
import Derived.Test.YtajaiiidafkijaaDoorMGs
import Derived.Deep.CutRange
import Derived.Deep.RegionLaw
import Derived.Deep.RegionHeld3
import Derived.Laws.BytesArg
namespace Go.Proofs.YtajaiiidafkijaaDoor.Wi
open Go Go.RowKit Go.Sort
/-! Two arrays of integers, held against each other. -/
section
variable {P : Program}
theorem run_part_int {e : TypeId} {k : IntKind} {i0 : TypeInfo} (w : World) (hu : P.underlying e = some (.int k)) (_hi : P.info? e = some i0) (l : List Int) (i : Nat) (h : i < l.length) :
 (part e (l.map (Value.int k)).toArray i).run P w = .ok (.int k l[i]) w := by
 have hagg : (isAgg e).run P w = .ok false w := by
  unfold isAgg
  rw [Sem.run_bind, run_underlying hu w]
  rfl
 simp [part, Sem.run_bind, hagg, h]
theorem run_eqItems_int {e : TypeId} {k : IntKind} {i0 : TypeInfo} (d : Nat) (w : World) (hu : P.underlying e = some (.int k)) (hi : P.info? e = some i0) (l l' : List Int) : ∀ (is : List Nat), (∀ i ∈ is, i < l.length ∧ i < l'.length) →
 (Op.eqItems (d + 1) e 1 (l.map (Value.int k)).toArray (l'.map (Value.int k)).toArray is).run P w = .ok (is.all fun i => l.getD i 0 == l'.getD i 0) w
 | [], _ => by simp [Op.eqItems]
 | i :: is, h => by
  have h1 := h i (by simp)
  have h2 := run_eqItems_int d w hu hi l l' is (fun j hj => h j (by simp [hj]))
  have e1 : l.getD i 0 = l[i]'h1.1 := by simp [h1.1]
  have e2 : l'.getD i 0 = l'[i]'h1.2 := by simp [h1.2]
  simp only [Op.eqItems, Sem.run_bind, Nat.mul_one, run_part_int w hu hi l i h1.1, run_part_int w hu hi l' i h1.2, Result.andThen_ok, run_equalIn_int w d e k k _ _ hu, List.all_cons, e1, e2]
  cases hb : (l[i]'h1.1 == l'[i]'h1.2)
  ·simp
  ·simpa using h2
theorem run_equal_ints {t e : TypeId} {k : IntKind} {i0 : TypeInfo} {n : Nat} (w : World) (ht : P.underlying t = some (.array n e)) (hu : P.underlying e = some (.int k)) (hi : P.info? e = some i0) (hc : P.cellsOf e = 1)
 (l l' : List Int) (hl : l.length = n) (hl' : l'.length = n) :
 (Op.equalIn 10000 t (.agg (l.map (Value.int k)).toArray) (.agg (l'.map (Value.int k)).toArray)).run P w = .ok (decide (l = l')) w := by
 rw [run_equalIn_array w 9999 _ _ ht hi, hc, run_eqItems_int 9998 w hu hi l l' (List.range n) (fun i h => by simp at h; omega)]
 congr 1
 rw [Bool.eq_iff_iff]
 simp only [List.all_eq_true, List.mem_range, beq_iff_eq, decide_eq_true_eq]
 constructor
 ·intro h
  apply List.ext_getElem (by omega)
  intro i h1 h2
  have := h i (by omega)
  simpa [h1, h2] using this
 ·rintro rfl i _
  rfl
end
/-! Calls by contract; what stays. -/
def Gives (f : FuncId) (args : Array Value) (v : Value) : Prop := ∀ W, Calls Tryd.prog f args W fun e w' => e = .returned v ∧ Below W.heap.size W w'
theorem Gives.at {f : FuncId} {args : Array Value} {v : Value} (h : Gives f args v) (W : World) : Calls Tryd.prog f args W fun e w' => e = .returned v ∧ Below W.heap.size W w' := h W
theorem Gives.re {f : FuncId} {args : Array Value} {v : Value} (h : Gives f args v) {w : World} {d : Nat} {os : Array Obj} : Calls Tryd.prog f args (grow (redrawn w d) os) fun e w'' => e = .returned v ∧ ∃ p : Regrown, w'' = grow (redrawn w p.d) p.os := Calls.regrown_of (h _)
theorem hide {p : Prop} (h : p) : Hid p := h
theorem Hid.out {p : Prop} (h : Hid p) : p := h
theorem keep {w W : World} (hb : Below w.heap.size w W) {g : Nat} {o : Obj} (h : w.heap[g]? = some o) : W.heap[g]? = some o :=
 (hb.block _ (Array.getElem?_eq_some_iff.1 h).1).trans h
theorem keepr {w : World} {g : Nat} {o : Obj} (h : w.heap[g]? = some o) : Hid (∀ W, (∃ p : Regrown, W = grow (redrawn w p.d) p.os) → W.heap[g]? = some o) := by
 rintro _ ⟨p, rfl⟩; exact keep (below_regrown w p.d p.os) h
theorem lt_of_row {w : World} {g : Nat} {o : Obj} (h : w.heap[g]? = some o) : g < w.heap.size := (Array.getElem?_eq_some_iff.1 h).1
theorem Below.after {w w1 w2 : World} (h : Below w.heap.size w w1) (hb : Below w1.heap.size w1 w2) : Below w.heap.size w w2 := h.trans (hb.mono h.size)
theorem wpList_load_want {P : Program} {ops : Array Oper} {rest : List Oper} {o : Oper} {a : Act} {w : World} {Q : Exit → Act → World → Prop} (hw : Region.wanted o (yielded ops a.tmps) = true) (ty : TypeId) (x : Operand) (ho : o.op = .load ty x)
 (g : Nat) (hx : a.eval x = .pointer (some ⟨g, 0, none⟩)) (t : TypeId) (cs : Array Value) (fr : Nat × Nat) (d : TypeDesc) (hg : w.heap[g]? = some (.cells cs t fr))
 (hu : P.underlying ty = some d) (hd : (match d with | .struct _ | .array _ _ => true | _ => false) = true) (hi : (P.info? ty).map (·.size) = some cs.size)
 (h : wpList P ops Q rest (a.put o.dst (.agg cs)) w) : wpList P ops Q (o :: rest) a w :=
 BigFrame.wpList_want hw fun _ hK => wp_load_row ty x ho g hx t cs fr d hg hu hd hi (hK _ _ h)
/-! Rows of integers. -/
def irow (k : IntKind) (l : List Int) : Array Value := (l.map (Value.int k)).toArray
theorem irow_get (k : IntKind) (l : List Int) (j : Nat) (hj : j < l.length) : (irow k l)[j]? = some (.int k (l.getD j 0)) := by
 simp [irow, List.getElem?_eq_getElem hj, List.getD_eq_getElem?_getD]
theorem irow_cell {W : World} {g : Nat} {k : IntKind} {l : List Int} {t : TypeId} (hg : W.heap[g]? = some (.cells (irow k l) t (0, 0))) {j : Nat} (hj : j < l.length) : W.cell? ⟨g, j, none⟩ = some (.int k (l.getD j 0)) := by
 simp only [World.cell?, hg]
 simpa using irow_get k l j hj
theorem ints_one (k : IntKind) (l : List Int) : ∀ u ∈ l.map (Value.int k), u.oneCell' = true := by
 intro u hu
 obtain ⟨z, _, rfl⟩ := List.mem_map.1 hu
 rfl
def zr (k : Nat) : List Int := List.replicate k 0
/-! Blocks of zeros, by their types. -/
theorem b24 (cs : Array Value) (W : World) : (Instr.box 29 (.agg cs)).run Tryd.prog W = .ok (.pointer (some ⟨W.heap.size, 0, none⟩)) (W.alloc (.cells cs 29)) := by kernel_rfl
def Bys (W : World) (v : Value) (bs : List Int) : Prop := ∃ ao cap, v = .slice ao bs.length cap ∧ bs.length ≤ 9223372036854775807 ∧ (∀ j, j < bs.length → ∃ b off, ao = some ⟨b, off, none⟩ ∧ b < W.heap.size ∧ W.cell? ⟨b, off + j, none⟩ = some (.int .u8 (bs.getD j 0))) ∧ (∀ z ∈ bs, 0 ≤ z ∧ z < 256)
theorem Bys.keep {W W' : World} {v : Value} {bs : List Int} (h : Bys W v bs) (hb : Below W.heap.size W W') : Bys W' v bs := by
 obtain ⟨ao, cap, e, hl, hc, hz⟩ := h
 refine ⟨ao, cap, e, hl, fun j hj => ?_, hz⟩
 obtain ⟨b, off, e1, h1, h2⟩ := hc j hj
 exact ⟨b, off, e1, Nat.lt_of_lt_of_le h1 hb.size, (hb.cell h1).trans h2⟩
theorem Bys.of_row {W : World} {g : Nat} {l : List Int} {t : TypeId} (hg : W.heap[g]? = some (.cells (irow .u8 l) t (0, 0))) (hl : l.length ≤ 9223372036854775807) (hz : ∀ z ∈ l, 0 ≤ z ∧ z < 256) (cap : Nat) : Bys W (.slice (some ⟨g, 0, none⟩) l.length cap) l := by
 refine ⟨_, cap, rfl, hl, fun j hj => ⟨g, 0, rfl, lt_of_row hg, ?_⟩, hz⟩
 rw [Nat.zero_add]
 exact irow_cell hg hj
end Go.Proofs.YtajaiiidafkijaaDoor.Wi
namespace Go.Proofs.YtajaiiidafkijaaDoor.Wi
open Go Go.RowKit Go.Sort
attribute [local go_sem] setCell_drewN alloc_drewN
/-! What a block comes to, on lists of numbers. -/
def rot (x : Int) (n : Nat) : Int := bits .or .u64 (x / 2 ^ n) (x * 2 ^ (64 - n) % 18446744073709551616)
def lo0 (x : Int) : Int := bits .xor .u64 (bits .xor .u64 (rot x 1) (rot x 8)) (x / 128)
def lo1 (x : Int) : Int := bits .xor .u64 (bits .xor .u64 (rot x 19) (rot x 61)) (x / 64)
def up0 (x : Int) : Int := bits .xor .u64 (bits .xor .u64 (rot x 28) (rot x 34)) (rot x 39)
def up1 (x : Int) : Int := bits .xor .u64 (bits .xor .u64 (rot x 14) (rot x 18)) (rot x 41)
theorem or_comm (x y : Int) : bits .or .u64 x y = bits .or .u64 y x := by
 unfold bits
 simp only [BitVec.or_comm]
end Go.Proofs.YtajaiiidafkijaaDoor.Wi
namespace Go.Proofs.YtajaiiidafkijaaDoor.Wi
open Go Go.RowKit Go.Sort
attribute [local go_sem] setCell_drewN alloc_drewN
def hor (l : List Int) (o : Nat) : Nat → Int
 | 0 => 0
 | j + 1 => hor l o j * 256 + l.getD (o + j) 0
def wrd (b : List Int) (t : Nat) : Int := hor b (8 * t) 8
def wds (b : List Int) (t : Nat) : Int := if t < 16 then wrd b t else IntKind.u64.wrap (IntKind.u64.wrap (IntKind.u64.wrap (lo1 (wds b (t - 2)) + wds b (t - 7)) + lo0 (wds b (t - 15))) + wds b (t - 16))
termination_by t
end Go.Proofs.YtajaiiidafkijaaDoor.Wi
namespace Go.Proofs.YtajaiiidafkijaaDoor.Wi
open Go Go.RowKit Go.Sort
attribute [local go_sem] setCell_drewN alloc_drewN
def kl : List Int := [4794697086780616226, 8158064640168781261, 13096744586834688815, 16840607885511220156, 4131703408338449720, 6480981068601479193, 10538285296894168987, 12329834152419229976, 15566598209576043074, 1334009975649890238, 2608012711638119052, 6128411473006802146, 8268148722764581231, 9286055187155687089, 11230858885718282805, 13951009754708518548, 16472876342353939154, 17275323862435702243, 1135362057144423861, 2597628984639134821, 3308224258029322869, 5365058923640841347, 6679025012923562964, 8573033837759648693, 10970295158949994411, 12119686244451234320, 12683024718118986047, 13788192230050041572, 14330467153632333762, 15395433587784984357, 489312712824947311, 1452737877330783856, 2861767655752347644, 3322285676063803686, 5560940570517711597, 5996557281743188959, 7280758554555802590, 8532644243296465576, 9350256976987008742, 10552545826968843579, 11727347734174303076, 12113106623233404929, 14000437183269869457, 14369950271660146224, 15101387698204529176, 15463397548674623760, 17586052441742319658, 1182934255886127544, 1847814050463011016, 2177327727835720531, 2830643537854262169, 3796741975233480872, 4115178125766777443, 5681478168544905931, 6601373596472566643, 7507060721942968483, 8399075790359081724, 8693463985226723168, 9568029438360202098, 10144078919501101548, 10430055236837252648, 11840083180663258601, 13761210420658862357, 14299343276471374635, 14566680578165727644, 15097957966210449927, 16922976911328602910, 17689382322260857208, 500013540394364858, 748580250866718886, 1242879168328830382, 1977374033974150939, 2944078676154940804, 3659926193048069267, 4368137639120453308, 4836135668995329356, 5532061633213252278, 6448918945643986474, 6902733635092675308, 7801388544844847127]
def sl : List Int := [7640891576956012808, 13503953896175478587, 4354685564936845355, 11912009170470909681, 5840696475078001361, 11170449401992604703, 2270897969802886507, 6620516959819538809]
structure St8 where
 (a b c d e f g h : Int)
def notx (x : Int) : Int := bits .xor .u64 IntKind.u64.max x
def wp (x : Int) : Int := IntKind.u64.wrap x
def one1 (k w : Int) (s : St8) : Int := IntKind.u64.wrap (IntKind.u64.wrap (IntKind.u64.wrap (IntKind.u64.wrap (s.h + up1 s.e) + bits .xor .u64 (bits .and .u64 s.e s.f) (bits .and .u64 (notx s.e) s.g)) + k) + w)
def two2 (s : St8) : Int := IntKind.u64.wrap (up0 s.a + bits .xor .u64 (bits .xor .u64 (bits .and .u64 s.a s.b) (bits .and .u64 s.a s.c)) (bits .and .u64 s.b s.c))
def rnd (k w : Int) (s : St8) : St8 := ⟨IntKind.u64.wrap (one1 k w s + two2 s), s.a, s.b, s.c, IntKind.u64.wrap (s.d + one1 k w s), s.e, s.f, s.g⟩
def st0 (h : List Int) : St8 := ⟨h.getD 0 0, h.getD 1 0, h.getD 2 0, h.getD 3 0, h.getD 4 0, h.getD 5 0, h.getD 6 0, h.getD 7 0⟩
def rs (h : List Int) (W : Nat → Int) : Nat → St8
 | 0 => st0 h
 | t + 1 => rnd (kl.getD t 0) (W t) (rs h W t)
def St8.list (s : St8) : List Int := [s.a, s.b, s.c, s.d, s.e, s.f, s.g, s.h]
def St8.ok (s : St8) : Prop := ∀ x ∈ s.list, 0 ≤ x ∧ x < 18446744073709551616
end Go.Proofs.YtajaiiidafkijaaDoor.Wi
namespace Go.Proofs.YtajaiiidafkijaaDoor.Wi
open Go Go.RowKit Go.Sort
attribute [local go_sem] setCell_drewN alloc_drewN
def sums (h e : List Int) (k : Nat) : List Int := (List.range 8).map fun j => if j < k then IntKind.u64.wrap (h.getD j 0 + e.getD j 0) else h.getD j 0
theorem sums_len (h e : List Int) (k : Nat) : (sums h e k).length = 8 := by simp [sums]
def blk (h b : List Int) : List Int := sums h (rs h (wds b) 80).list 8
theorem blk_len (h b : List Int) : (blk h b).length = 8 := sums_len _ _ _
end Go.Proofs.YtajaiiidafkijaaDoor.Wi
namespace Go.Proofs.YtajaiiidafkijaaDoor.Wi
set_option maxRecDepth 100000
open Go Go.RowKit Go.Sort
attribute [local go_sem] setCell_drewN alloc_drewN
def pk64 (W : Nat → Int) (t : Nat) : List Int := (List.range 64).map fun j => if j < t then W j else 0
def prq (W : Nat → Int) (t : Nat) : List Int := (List.range 128).map fun j => if j < t then W j else 0
theorem prq_len (W : Nat → Int) (t : Nat) : (prq W t).length = 128 := by simp [prq]
def bte (h : List Int) (j : Nat) : Int := h.getD (j / 8) 0 / 2 ^ (56 - 8 * (j % 8)) % 256
def byts (h : List Int) : List Int := pk64 (bte h) 64
end Go.Proofs.YtajaiiidafkijaaDoor.Wi
namespace Go.Proofs.YtajaiiidafkijaaDoor.Wi
open Go Go.RowKit Go.Sort
attribute [local go_sem] setCell_drewN alloc_drewN
def plen (n : Nat) : Nat := 17 + (239 - n % 128) % 128
def pbit (n i : Nat) : Int := ((8 * n / 2 ^ (8 * i) % 256 : Nat) : Int)
def padP (n k : Nat) : List Int := (List.range (plen n)).map fun j => if j = 0 then 128 else if plen n - k ≤ j ∨ (plen n - 8 - k ≤ j ∧ j < plen n - 8) then pbit n (plen n - 1 - j) else 0
def padL (n : Nat) : List Int := padP n 8
end Go.Proofs.YtajaiiidafkijaaDoor.Wi
namespace Go.Proofs.YtajaiiidafkijaaDoor.Wi
set_option maxRecDepth 100000
open Go Go.RowKit Go.Sort
/-! Blocks in a row; a hash under way. -/
def wat (bs : List Int) (q i : Nat) : Int := bs.getD (128 * q + i) 0
def chunk (bs : List Int) (k : Nat) : List Int := prq (wat bs k) 128
def fol (h bs : List Int) : Nat → List Int
 | 0 => h
 | k + 1 => blk (fol h bs k) (chunk bs k)
theorem fol_len {h : List Int} (hl : h.length = 8) (bs : List Int) : ∀ k, (fol h bs k).length = 8
 | 0 => hl
 | _ + 1 => blk_len _ _
def hcells (ws ps : List Int) (sz : Int) : Array Value := (ws.map (Value.int .u64) ++ (ps.map (Value.int .u8) ++ [Value.int .u64 sz])).toArray
def hwords (bs : List Int) : List Int := fol sl bs (bs.length / 128)
def hpart (bs : List Int) : List Int := prq (wat bs (bs.length / 128)) (bs.length % 128)
def hst (bs : List Int) : Array Value := hcells (hwords bs) (hpart bs) (bs.length : Int)
theorem hwords_len (bs : List Int) : (hwords bs).length = 8 := fol_len rfl _ _
theorem hpart_len (bs : List Int) : (hpart bs).length = 128 := prq_len _ _
theorem hcells_size (ws ps : List Int) (sz : Int) (h1 : ws.length = 8) (h2 : ps.length = 128) : (hcells ws ps sz).size = 137 := by simp [hcells, h1, h2]
end Go.Proofs.YtajaiiidafkijaaDoor.Wi
namespace Go.Proofs.YtajaiiidafkijaaDoor.Wi
open Go Go.RowKit Go.Sort
attribute [local go_sem] setCell_drewN alloc_drewN
end Go.Proofs.YtajaiiidafkijaaDoor.Wi
namespace Go.Proofs.YtajaiiidafkijaaDoor.Wi
open Go Go.RowKit Go.Sort
attribute [local go_sem] setCell_drewN alloc_drewN
end Go.Proofs.YtajaiiidafkijaaDoor.Wi
namespace Go.Proofs.YtajaiiidafkijaaDoor.Wi
open Go Go.RowKit Go.Sort
attribute [local go_sem] setCell_drewN alloc_drewN
set_option maxRecDepth 100000 in
theorem info8 : ∃ i, Tryd.prog.info? 5 = some i ∧ i.zero = some (.int .u8 0) ∧ i.size = 1 ∧ i.bytes = 1 := ⟨_, rfl, rfl, rfl, rfl⟩
end Go.Proofs.YtajaiiidafkijaaDoor.Wi
namespace Go.Proofs.YtajaiiidafkijaaDoor.Wi
set_option maxRecDepth 100000
open Go Go.RowKit Go.Sort
attribute [local go_sem] setCell_drewN alloc_drewN
end Go.Proofs.YtajaiiidafkijaaDoor.Wi
namespace Go.Proofs.YtajaiiidafkijaaDoor.Wi
set_option maxRecDepth 100000
open Go Go.RowKit Go.Sort
attribute [local go_sem] setCell_drewN alloc_drewN
def sumW (bs : List Int) : List Int := fol sl (bs ++ padL bs.length) ((bs ++ padL bs.length).length / 128)
def sumL (bs : List Int) : List Int := byts (sumW bs)
theorem Bys.of_own {W : World} {b n : Nat} {v : Value} {l : List Int} (h : W.ownsRow b 5 1 v n (l.map (Value.int .u8))) (hl : l.length ≤ 9223372036854775807) (hz : ∀ z ∈ l, 0 ≤ z ∧ z < 256) : Bys W v l := by
 obtain ⟨h1, ⟨rfl, rfl⟩ | ⟨g, cap, cur, rfl, hb, hg, hn, hm, hs, ht⟩⟩ := h
 ·have : l = [] := List.eq_nil_of_length_eq_zero (by simpa using h1)
  subst this
  exact ⟨none, 0, rfl, by decide, fun j hj => by simp at hj, by simp⟩
 ·have hln : l.length = n := by simpa using h1
  refine ⟨_, cap, by rw [hln], hl, fun j hj => ⟨g, 0, rfl, lt_of_row hg, ?_⟩, hz⟩
  rw [Nat.zero_add, cell_of_row _ _ _ _ _ _ hg]
  have h2 := congrArg (fun q => q[j]?) ht
  simp only [Nat.mul_one] at h2
  rw [List.getElem?_take_of_lt (by omega), List.getElem?_map, List.getElem?_eq_getElem hj] at h2
  rw [← Array.getElem?_toList, h2, List.getD_eq_getElem?_getD, List.getElem?_eq_getElem hj]
  rfl
theorem own_keep {W W' : World} {b n : Nat} {T : TypeId} {v : Value} {xs : List Value} (h : W.ownsRow b T 1 v n xs) (hb : Below W.heap.size W W') : W'.ownsRow b T 1 v n xs := by
 obtain ⟨h1, h2 | ⟨g, cap, cur, rfl, hb2, hg, h3⟩⟩ := h
 ·exact ⟨h1, .inl h2⟩
 ·exact ⟨h1, .inr ⟨g, cap, cur, rfl, hb2, keep hb hg, h3⟩⟩
end Go.Proofs.YtajaiiidafkijaaDoor.Wi
namespace Go.Proofs.YtajaiiidafkijaaDoor.Wi
open Go Go.RowKit Go.Sort
attribute [local go_sem] setCell_drewN alloc_drewN
end Go.Proofs.YtajaiiidafkijaaDoor.Wi
namespace Go.Proofs.YtajaiiidafkijaaDoor.Wi
set_option maxRecDepth 100000
open Go Go.RowKit Go.Sort
attribute [local go_sem] setCell_drewN alloc_drewN
end Go.Proofs.YtajaiiidafkijaaDoor.Wi
namespace Go.Proofs.YtajaiiidafkijaaDoor.Wi
set_option maxRecDepth 100000
open Go Go.RowKit Go.Sort
attribute [local go_sem] setCell_drewN alloc_drewN
theorem infoH (ws ps : List Int) (sz : Int) (h1 : ws.length = 8) (h2 : ps.length = 128) : (Tryd.prog.info? 139).map (·.size) = some (hcells ws ps sz).size := by
 rw [hcells_size _ _ _ h1 h2]; kernel_rfl
theorem infoS (bs : List Int) : (Tryd.prog.info? 139).map (·.size) = some (hst bs).size := infoH _ _ _ (hwords_len bs) (hpart_len bs)
end Go.Proofs.YtajaiiidafkijaaDoor.Wi
namespace Go.Proofs.YtajaiiidafkijaaDoor
set_option maxRecDepth 100000
theorem L_ell : L19 = (ell : Int) := by unfold L19; decide
theorem ell_nat : L19.toNat = ell := by rw [L_ell]; rfl
def nbr (bs : List Int) : Int := (bval (Wi.sumL bs) : Int) % L19
def chl (R A : Int) (b : List Int) : Int := nbr (b32 R ++ (b32 A ++ b))
def back (P : E1) (b : List Int) (R S : Int) : E1 := pl (ml S.toNat bp) (ng (ml (chl R (pb P) b).toNat P))
end Go.Proofs.YtajaiiidafkijaaDoor
namespace Go.Proofs.YtajaiiidafkijaaDoor
set_option maxRecDepth 100000
open Go Go.RowKit Go.Sort
attribute [local go_sem] setCell_drewN alloc_drewN
def Sgn (w : World) : Prop := Edw w ∧ Ord w
theorem Sgn.below {w w' : World} (h : Sgn w) (hb : Below w.heap.size w w') : Sgn w' := ⟨h.1.below hb, h.2.below hb⟩
theorem Sgn.alloc {w : World} (h : Sgn w) (o : Obj) : Sgn (w.alloc o) := h.below ((Below.refl _ _).alloc (Nat.le_refl _) _)
theorem Sgn.four {w : World} (h : Sgn w) : Four w := h.1.1.1
def GivesS (f : FuncId) (args : Array Value) (v : Value) : Prop := ∀ W, Sgn W → Calls Tryd.prog f args W fun e w' => e = .returned v ∧ Below W.heap.size W w'
theorem GivesS.at {f : FuncId} {args : Array Value} {v : Value} (h : GivesS f args v) {W : World} (hW : Sgn W) : Calls Tryd.prog f args W fun e w' => e = .returned v ∧ Below W.heap.size W w' := h W hW
theorem GivesS.re {f : FuncId} {args : Array Value} {v : Value} (h : GivesS f args v) {w : World} {d : Nat} {os : Array Obj} (hw : Sgn w) : Calls Tryd.prog f args (grow (redrawn w d) os) fun e w'' => e = .returned v ∧ ∃ p : Regrown, w'' = grow (redrawn w p.d) p.os := Calls.regrown_of (h _ (hw.below (below_regrown w d os)))
def BysK (W : World) (v : Value) (bs : List Int) : Prop := Bys W v bs ∧ (∀ a l c, v = .slice a l c → l ≤ c) ∧ bs.length ≤ 4611686018427380000
theorem BysK.keep {W W' : World} {v : Value} {bs : List Int} (h : BysK W v bs) (hb : Below W.heap.size W W') : BysK W' v bs := ⟨h.1.keep hb, h.2.1, h.2.2⟩
theorem b32_map (N : Int) : b32 N = (List.range 32).map (byt N) := rfl
end Go.Proofs.YtajaiiidafkijaaDoor
namespace Go.Proofs.YtajaiiidafkijaaDoor
set_option maxRecDepth 100000
open Go.RowKit Go.Sort
attribute [local go_sem] setCell_drewN alloc_drewN
end Go.Proofs.YtajaiiidafkijaaDoor
namespace Go.Proofs.YtajaiiidafkijaaDoor
set_option maxRecDepth 100000
open Go.RowKit Go.Sort
attribute [local go_sem] setCell_drewN alloc_drewN
end Go.Proofs.YtajaiiidafkijaaDoor
namespace Go.Proofs.YtajaiiidafkijaaDoor
set_option maxRecDepth 100000
open Go Go.RowKit Go.Sort
attribute [local go_sem] setCell_drewN alloc_drewN
theorem z32 : #[.int .u8 0, .int .u8 0, .int .u8 0, .int .u8 0, .int .u8 0, .int .u8 0, .int .u8 0, .int .u8 0, .int .u8 0, .int .u8 0, .int .u8 0, .int .u8 0, .int .u8 0, .int .u8 0, .int .u8 0, .int .u8 0, .int .u8 0, .int .u8 0, .int .u8 0, .int .u8 0, .int .u8 0, .int .u8 0, .int .u8 0, .int .u8 0, .int .u8 0, .int .u8 0, .int .u8 0, .int .u8 0, .int .u8 0, .int .u8 0, .int .u8 0, .int .u8 0] = kb 0 := rfl
def pz : Array Value := #[.int .u64 0, .int .u64 0, .int .u64 0, .int .u64 0, .int .u64 0, .int .u64 0, .int .u64 0, .int .u64 0, .int .u64 0, .int .u64 0, .int .u64 0, .int .u64 0, .int .u64 0, .int .u64 0, .int .u64 0, .int .u64 0, .int .u64 0, .int .u64 0, .int .u64 0, .int .u64 0]
end Go.Proofs.YtajaiiidafkijaaDoor
namespace Go.Proofs.YtajaiiidafkijaaDoor
set_option maxRecDepth 100000
open Go.ChangeShapes Go.WideShapes Go.ChangeAt Go.WideMaps Go.WideElems Go.RowKit
theorem gOr : Tryd.prog.globalNamed "pawl/edwards.order" = some 2 := by kernel_rfl
theorem tOr : (Tryd.prog.globals[2]?).map (·.type) = some 52 := by kernel_rfl
theorem cU64 : Tryd.prog.cellsOf 40 = 1 := by kernel_rfl
theorem cW4 : Tryd.prog.cellsOf 52 = 4 := by kernel_rfl
theorem sgn_of_laid {W : World} (h : laidMetH Tryd.prog [("pawl/field.fourfold", Rows.laid_pawl_field_fourfold), ("pawl/field.unit", Rows.laid_pawl_field_unit), ("pawl/edwards.baseX", Rows.laid_pawl_edwards_baseX), ("pawl/edwards.baseY", Rows.laid_pawl_edwards_baseY), ("pawl/edwards.order", Rows.laid_pawl_edwards_order)] W) : Sgn W := by
 rw [MakeChecks.laidMetH_plain _ _ _ (by kernel_rfl)] at h
 obtain ⟨ps, ⟨g0, t0, cs0, f0, p0, q0, hg0, ht0, hv0, hd0, ⟨g1, t1, cs1, f1, p1, q1, hg1, ht1, hv1, hd1, ⟨g2, t2, cs2, f2, p2, q2, hg2, ht2, hv2, hd2, ⟨g3, t3, cs3, f3, p3, q3, hg3, ht3, hv3, hd3, ⟨g4, t4, cs4, f4, p4, q4, hg4, ht4, hv4, hd4, _⟩, _⟩, _⟩, _⟩, _⟩, _, _⟩ := h
 obtain rfl := Option.some.inj (gFour.symm.trans hg0)
 obtain rfl := Option.some.inj (tFour.symm.trans ht0)
 obtain rfl := row5_of Tryd.underlying41 Tryd.underlying40 c1 c5 hd0
 obtain rfl := Option.some.inj (gUnit.symm.trans hg1)
 obtain rfl := Option.some.inj (tUnit.symm.trans ht1)
 obtain ⟨y0, n, hx, hl, hy⟩ := trod_struct1 Tryd.underlying43 hd1
 have hx' : y0 = (.agg [.lit (.int .u64 1718705420411056), .lit (.int .u64 234908883556509), .lit (.int .u64 2233514472574048), .lit (.int .u64 2117202627021982), .lit (.int .u64 765476049583133)], y0.2) := by
  simp only [Rows.laid_pawl_field_unit, Prod.mk.injEq, DataW.agg.injEq, List.cons.injEq, and_true] at hx
  exact Prod.ext hx.1.symm rfl
 rw [hx'] at hy
 rw [cNum] at hl
 have e5 : (cs1.toList.drop 0).take 5 = cs1.toList := by rw [List.drop_zero, ← hl]; exact List.take_length
 have hy2 : DataW.trod (fun _ => ()) Tryd.prog W 0 (fun _ => true) false n 41 cs1.toList = some (.agg [.lit (.int .u64 1718705420411056), .lit (.int .u64 234908883556509), .lit (.int .u64 2233514472574048), .lit (.int .u64 2117202627021982), .lit (.int .u64 765476049583133)], y0.2) := by
  have hy' := hy
  rw [show Tryd.prog.cellsOf _ = 5 from c5, e5] at hy'
  exact hy'
 obtain rfl := row5_of Tryd.underlying41 Tryd.underlying40 c1 c5 hy2
 obtain rfl := Option.some.inj (gBx.symm.trans hg2)
 obtain rfl := Option.some.inj (tBx.symm.trans ht2)
 obtain rfl := rowN_of (ks := [26, 213, 37, 143, 96, 45, 86, 201, 178, 167, 37, 149, 96, 199, 44, 105, 92, 220, 214, 253, 49, 226, 164, 192, 254, 83, 110, 205, 211, 54, 105, 33]) Tryd.underlying25 Tryd.underlying5 cU8 cKey hd2
 obtain rfl := Option.some.inj (gBy.symm.trans hg3)
 obtain rfl := Option.some.inj (tBy.symm.trans ht3)
 obtain rfl := rowN_of (ks := [88, 102, 102, 102, 102, 102, 102, 102, 102, 102, 102, 102, 102, 102, 102, 102, 102, 102, 102, 102, 102, 102, 102, 102, 102, 102, 102, 102, 102, 102, 102, 102]) Tryd.underlying25 Tryd.underlying5 cU8 cKey hd3
 obtain rfl := Option.some.inj (gOr.symm.trans hg4)
 obtain rfl := Option.some.inj (tOr.symm.trans ht4)
 obtain rfl := rowN_of (ks := [6346243789798364141, 1503914060200516822, 0, 1152921504606846976]) Tryd.underlying52 Tryd.underlying40 cU64 cW4 hd4
 have e3 : wd L19 = ([6346243789798364141, 1503914060200516822, 0, 1152921504606846976].map (Value.int .u64)).toArray := by unfold L19; rfl
 have e1 : kb (tx bp) = ([26, 213, 37, 143, 96, 45, 86, 201, 178, 167, 37, 149, 96, 199, 44, 105, 92, 220, 214, 253, 49, 226, 164, 192, 254, 83, 110, 205, 211, 54, 105, 33].map (Value.int .u8)).toArray := by rw [bp_tx]; rfl
 have e2 : kb bp.y = ([88, 102, 102, 102, 102, 102, 102, 102, 102, 102, 102, 102, 102, 102, 102, 102, 102, 102, 102, 102, 102, 102, 102, 102, 102, 102, 102, 102, 102, 102, 102, 102].map (Value.int .u8)).toArray := rfl
 have hU : ∃ t fr, W.heap[4]? = some (.cells ucells t fr) := row_of_var gUnit hv1
 refine ⟨⟨⟨four_of_cells hv0, hU⟩, ?_, ?_⟩, ?_⟩
 ·rw [e1]; exact row_of_var gBx hv2
 ·rw [e2]; exact row_of_var gBy hv3
 ·unfold Ord
  rw [e3]; exact row_of_var gOr hv4
end Go.Proofs.YtajaiiidafkijaaDoor
namespace Go.Proofs.YtajaiiidafkijaaDoor
set_option maxRecDepth 100000
open Go Go.RowKit Go.Sort
attribute [local go_sem] setCell_drewN alloc_drewN
theorem eight (P : E1) : pl (pl (pl P P) (pl P P)) (pl (pl P P) (pl P P)) = ml 8 P := by
 have h : pl P P = ml 2 P := by rw [show (2 : Nat) = 1 + 1 from rfl, ml_add, ml_one]
 rw [h, ml_two, ml_two]
set_option maxRecDepth 100000 in
set_option maxHeartbeats 8000000 in
theorem times_walk19 {xP xS xR : Array Value} {B : Int} {P Q : E1} (oP : PtO xP P) (oS : WdO xS) (oR : PtO xR Q) (hK : KeyOf (kb B) B) (cB : Gives 36 #[.agg xS] (.agg (kb B))) (c : ∀ (w : World) (ev : Value), Four w → Bys w ev (b32 B) → Calls Tryd.prog 20 #[.agg xP, ev] w fun e w' => e = .returned (.agg xR) ∧ Below w.heap.size w w') : Gives4 24 #[.agg xP, .agg xS] (.agg xR) := by
 intro w hF
 have rp0 := hp3_0 w (.cells xP 45) (.cells xS 54) (.cells q20 45)
 have rp1 := hp3_1 w (.cells xP 45) (.cells xS 54) (.cells q20 45)
 have rp2 := hp3_2 w (.cells xP 45) (.cells xS 54) (.cells q20 45)
 have hw : Below w.heap.size w (((w.alloc (.cells xP 45)).alloc (.cells xS 54)).alloc (.cells q20 45)) := (((Below.refl _ _).alloc (Nat.le_refl _) _).alloc (by simp) _).alloc (by simp; omega) _
 have f4 := ((hF.alloc (.cells xP 45)).alloc (.cells xS 54)).alloc (.cells q20 45)
 go_enter Tryd.func24, Tryd.ntmps24
 iterate 12 go_step
 generalize (((w.alloc (.cells xP 45)).alloc (.cells xS 54)).alloc (.cells q20 45)) = w0 at *
 go_wp2_with (first | (refine wpList_load_want rfl 54 _ rfl (w.heap.size + 1) rfl 54 xS (0, 0) _ rp1 Tryd.underlying54 rfl oS.infoS ?_) | fail)
 refine (cB.at _).mono ?_
 rintro e w1 ⟨rfl, hb⟩
 replace rp0 := keep hb rp0
 replace rp2 := keep hb rp2
 replace hw := Below.after hw hb
 replace f4 := f4.below hb
 clear hb
 go_wp2_with (first | (refine wpList_store_row rfl 25 _ _ rfl (w1.heap.size) (kb B) rfl rfl 25 q32 (hp1_0 w1 _) (kb_info _) rfl (kb_one _) ?_; rw [setRow_alloc_new _ _ _ _ _ _ (by simp)]; refine wpList_stay ?_) | fail)
 unfold WpStay
 try simp only [Act.put]
 have rk := hp1_0 w1 (.cells (kb B) 25)
 have hb : Below w1.heap.size w1 (w1.alloc (.cells (kb B) 25)) := (Below.refl _ _).alloc (Nat.le_refl _) _
 generalize w1.alloc (.cells (kb B) 25) = w2 at *
 replace rp0 := keep hb rp0
 replace rp2 := keep hb rp2
 replace hw := Below.after hw hb
 replace f4 := f4.below hb
 clear hb
 generalize w1.heap.size = gk at *
 clear w1
 have hSl := bys_row rk hK
 have H0 := keepr rp0
 go_wp2_with (fail)
 refine wp_region_tail (C := fun w' => ∃ p : Regrown, w' = grow (redrawn w2 p.d) p.os) 3 _ rfl rfl rfl (by kernel_rfl) (by kernel_rfl) (by kernel_rfl) (by kernel_rfl) ⟨⟨w2.drawn + 1, #[]⟩, by rw [grow_empty]; rfl⟩ ?_
 dsimp only [List.set, idle]
 refine wpQuiet_load_row rfl 45 _ rfl (w.heap.size) rfl 45 xP (0, 0) _ H0.out Tryd.underlying45 rfl oP.info ?_
 simp only [Act.put, ZPd, ZPe, ZPf]
 go_big_quiet_step (fail)
 go_big_quiet_step (exact re_bys4 f4 hSl c)
 refine wpQuiet_idle rfl rfl rfl ?_
 rintro _ ⟨p, rfl⟩
 have hb := below_regrown w2 p.d p.os
 generalize grow (redrawn w2 p.d) p.os = w3 at *
 replace rp2 := keep hb rp2
 replace hw := Below.after hw hb
 clear hb H0
 go_wp2_with (first | (refine wpList_store_row rfl 45 _ _ rfl (w.heap.size + 1 + 1) xR rfl rfl 45 _ rp2 oR.info (oR.size).symm oR.one ?_) | fail)
 exact bodyPost_ret (v := .agg xR) (results_cell_row Tryd.results24 _ _ (w.heap.size + 1 + 1) _ xR _ _ rfl (setRow_heap _ _ _ _ _ _ rp2) Tryd.underlying45 rfl oR.info) rfl ⟨rfl, below_setRow hw (by omega) _⟩
theorem a_Times {r : Array Value} {P : E1} (h : PtO r P) {N : Int} (hN : 0 ≤ N ∧ N < L19) : ∃ s, PtO s (ml N.toNat P) ∧ Gives4 24 #[.agg r, .agg (wd N)] (.agg s) := by
 have hL := L_lt
 obtain ⟨s, hs, c⟩ := a_Scale h (b32 N) (b32_bd N)
 rw [bval_b32 _ hN.1 (by omega)] at hs
 exact ⟨s, hs, times_walk19 (B := N) h (wdo N) hs (kb_key _ hN.1 (by omega)) (a_sBytes N) c⟩
end Go.Proofs.YtajaiiidafkijaaDoor
namespace Go.Proofs.YtajaiiidafkijaaDoor
set_option maxRecDepth 100000
open Go Go.RowKit Go.Sort
attribute [local go_sem] setCell_drewN alloc_drewN
theorem z4 : #[.int .u64 0, .int .u64 0, .int .u64 0, .int .u64 0] = wd 0 := rfl
end Go.Proofs.YtajaiiidafkijaaDoor
namespace Go.Proofs.YtajaiiidafkijaaDoor.Wi
set_option maxRecDepth 100000
open Go Go.RowKit Go.Sort
end Go.Proofs.YtajaiiidafkijaaDoor.Wi
namespace Go.Proofs.YtajaiiidafkijaaDoor
set_option maxRecDepth 100000
end Go.Proofs.YtajaiiidafkijaaDoor
namespace Go.Proofs.YtajaiiidafkijaaDoor
set_option maxRecDepth 100000
open Go Go.RowKit Go.Sort
attribute [local go_sem] setCell_drewN alloc_drewN
end Go.Proofs.YtajaiiidafkijaaDoor
namespace Go.Proofs.YtajaiiidafkijaaDoor
set_option maxRecDepth 100000
open Go Go.RowKit Go.Sort
attribute [local go_sem] setCell_drewN alloc_drewN
theorem BysK.slc {W : World} {v : Value} {bs : List Int} (h : BysK W v bs) : ∃ ao cap, v = .slice ao bs.length cap ∧ True := by
 obtain ⟨⟨ao, cap, e, _⟩, _⟩ := h
 exact ⟨ao, cap, e, trivial⟩
theorem bysK_row {w : World} {g : Nat} {N : Int} {t : TypeId} (r : w.heap[g]? = some (.cells (kb N) t (0, 0))) : BysK w (.slice (some ⟨g, 0, none⟩) 32 32) (b32 N) := by
 refine ⟨⟨some ⟨g, 0, none⟩, 32, rfl, (by show 32 ≤ _; decide), fun j hj => ⟨g, 0, rfl, lt_of_row r, ?_⟩, b32_bd N⟩, fun a l c h => by cases h; exact Nat.le_refl _, (by show 32 ≤ _; decide)⟩
 rw [Nat.zero_add, cell_of_row w g j _ _ _ r, kb_b32]
 rw [List.getElem?_toArray, List.getElem?_map, List.getElem?_eq_getElem hj, List.getD_eq_getElem?_getD, List.getElem?_eq_getElem hj]
 rfl
inductive All2 (W : World) : List Value → List (List Int) → Prop
 | nil : All2 W [] []
 | cons {v : Value} {p : List Int} {vs : List Value} {ps : List (List Int)} : BysK W v p → All2 W vs ps → All2 W (v :: vs) (p :: ps)
theorem All2.len {W : World} {vs : List Value} {ps : List (List Int)} (h : All2 W vs ps) : vs.length = ps.length := by
 induction h with
 | nil => rfl
 | cons _ _ ih => simp [ih]
end Go.Proofs.YtajaiiidafkijaaDoor
namespace Go.Proofs.YtajaiiidafkijaaDoor
set_option maxRecDepth 100000
open Go Go.RowKit Go.Sort
attribute [local go_sem] setCell_drewN alloc_drewN
end Go.Proofs.YtajaiiidafkijaaDoor
namespace Go.Proofs.YtajaiiidafkijaaDoor
set_option maxRecDepth 100000
open Go Go.RowKit Go.Sort
attribute [local go_sem] setCell_drewN alloc_drewN
end Go.Proofs.YtajaiiidafkijaaDoor
namespace Go.Proofs.YtajaiiidafkijaaDoor
set_option maxRecDepth 100000
open Go Go.RowKit Go.Sort
attribute [local go_sem] setCell_drewN alloc_drewN
end Go.Proofs.YtajaiiidafkijaaDoor
namespace Go.Proofs.YtajaiiidafkijaaDoor
set_option maxRecDepth 100000
end Go.Proofs.YtajaiiidafkijaaDoor
namespace Go.Proofs.YtajaiiidafkijaaDoor.Wi
set_option maxRecDepth 100000
open Go Go.RowKit Go.Sort
attribute [local go_sem] setCell_drewN alloc_drewN
def hx (c : Int) : Int := if 97 ≤ c then c - 87 else c - 48
end Go.Proofs.YtajaiiidafkijaaDoor.Wi
namespace Go.Proofs.YtajaiiidafkijaaDoor
set_option maxRecDepth 100000
open Go Go.RowKit Go.Sort
attribute [local go_sem] setCell_drewN alloc_drewN
theorem bysK_own {W : World} {b n : Nat} {v : Value} {l : List Int} (h : W.ownsRow b 5 1 v n (l.map (Value.int .u8))) (hl : l.length ≤ 4611686018427380000) (hz : ∀ z ∈ l, 0 ≤ z ∧ z < 256) : BysK W v l := by
 refine ⟨Wi.Bys.of_own h (by omega) hz, ?_, hl⟩
 rcases h.2 with ⟨rfl, _⟩ | ⟨g, cap, cur, rfl, _, _, hc, _⟩
 ·intro a l c e; cases e; exact Nat.le_refl _
 ·intro a l c e; cases e; exact hc
end Go.Proofs.YtajaiiidafkijaaDoor
namespace Go.Proofs.YtajaiiidafkijaaDoor
set_option maxRecDepth 100000
open Go Go.RowKit Go.Sort
attribute [local go_sem] setCell_drewN alloc_drewN
def d16 (N : Int) : Array Value := ((List.range 16).map fun i => Value.int .u32 (N / 65536 ^ i % 65536)).toArray
theorem d16_size (N : Int) : (d16 N).size = 16 := rfl
theorem d16_cell (N : Int) (k : Nat) (h : k < 16) : (d16 N)[k]? = some (.int .u32 (N / 65536 ^ k % 65536)) := by
 unfold d16
 rw [List.getElem?_toArray, List.getElem?_map, List.getElem?_range h]
 rfl
theorem d16_one (N : Int) : (d16 N).all (·.oneCell') = true := by
 unfold d16
 rw [Array.all_eq_true']
 intro x hx
 simp only [List.mem_toArray, List.mem_map] at hx
 obtain ⟨i, _, rfl⟩ := hx
 rfl
theorem d16_infoR (N : Int) : (Tryd.prog.info? 67).map (·.size) = some (d16 N).size := by rw [d16_size]; kernel_rfl
theorem fill_set (m : List Int) (k : Nat) (x : Int) (hm : m.length = 32) (h : k < 32) (hx : m[k]? = some x) : (m.take k ++ List.replicate (32 - k) 0).set k x = m.take (k + 1) ++ List.replicate (32 - (k + 1)) 0 := by
 have hk : (m.take k).length = k := by simp; omega
 rw [List.set_append_right _ _ (by omega), hk, Nat.sub_self, show 32 - k = (32 - (k + 1)) + 1 by omega, List.replicate_succ, List.set_cons_zero, List.take_add_one, hx]
 simp
theorem rB_set (N : Int) (k : Nat) (h : k < 32) : (rB N k).setIfInBounds k (.int .u8 (byt N k)) = rB N (k + 1) := by
 have e : (b32 N)[k]? = some (byt N k) := by rw [b32_map, List.getElem?_map, List.getElem?_range h]; rfl
 unfold rB
 rw [← fill_set (b32 N) k (byt N k) rfl h e, List.setIfInBounds_toArray, List.map_set]
theorem byt_lo (N : Int) (k : Nat) : N / 65536 ^ k % 65536 % 256 = byt N (2 * k) := by
 unfold byt
 rw [show (256 : Int) ^ (2 * k) = 65536 ^ k by rw [Int.pow_mul]; rfl]
 omega
theorem byt_hi (N : Int) (k : Nat) : N / 65536 ^ k % 65536 / 256 = byt N (2 * k + 1) := by
 unfold byt
 rw [Int.pow_succ, show (256 : Int) ^ (2 * k) = 65536 ^ k by rw [Int.pow_mul]; rfl, ← Int.ediv_ediv_of_nonneg (Int.pow_nonneg (by decide))]
 omega
set_option maxRecDepth 100000 in
set_option maxHeartbeats 8000000 in
theorem r_sBytes (N : Int) : Gives 37 #[.agg (d16 N)] (.agg (kb N)) := by
 intro w
 have rp0 := hp2_0 w (.cells (d16 N) 67) (.cells (kb 0) 25)
 have rp1 := hp2_1 w (.cells (d16 N) 67) (.cells (kb 0) 25)
 have hw : Below w.heap.size w ((w.alloc (.cells (d16 N) 67)).alloc (.cells (kb 0) 25)) := (((Below.refl _ _).alloc (Nat.le_refl _) _).alloc (by simp) _)
 go_enter Tryd.func37, Tryd.ntmps37
 iterate 9 go_step
 try rw [z32]
 generalize ((w.alloc (.cells (d16 N) 67)).alloc (.cells (kb 0) 25)) = w0 at *
 go_wp2_with (fail)
 rw [z32]
 have rk := hp1_0 w0 (.cells (kb 0) 25)
 have hb : Below w0.heap.size w0 (w0.alloc (.cells (kb 0) 25)) := (Below.refl _ _).alloc (Nat.le_refl _) _
 generalize w0.alloc (.cells (kb 0) 25) = w1 at *
 have lt0 := lt_of_row rp0
 have lt1 := lt_of_row rp1
 have sz_ := hw.size
 replace rp0 := keep hb rp0
 replace rp1 := keep hb rp1
 replace hw := Below.after hw hb
 clear hb
 generalize w0.heap.size = gk at *
 replace rk : w1.heap[gk]? = some (.cells (rB N (2 * 0)) 25 (0, 0)) := rk
 go_loopw [4] (fun i wr => ∃ k : Nat, k ≤ 16 ∧ i = .int .i64 k ∧ wr.heap[w.heap.size]? = some (.cells (d16 N) 67 (0, 0)) ∧ wr.heap[w.heap.size + 1]? = some (.cells (kb 0) 25 (0, 0)) ∧ wr.heap[gk]? = some (.cells (rB N (2 * k)) 25 (0, 0)) ∧ Below w.heap.size w wr) (fun i _ => 16 - (intOf i).toNat)
 case atStart => exact ⟨0, by omega, rfl, rp0, rp1, rk, hw⟩
 case round =>
  clear rp0 rp1 rk hw
  obtain ⟨k, hk, rfl, rp0, rp1, rk, hw⟩ := hrel
  by_cases hlt : k < 16
  ·have hd : decide ((k : Int) < 16) = true := by simp; omega
   have ca : wr.cell? ⟨w.heap.size, k, none⟩ = some (.int .u32 (N / 65536 ^ k % 65536)) := (cell_of_row wr (w.heap.size) k _ _ _ rp0).trans (d16_cell _ _ hlt)
   have s1 := hide (rB_set N (2 * k) (by omega))
   have s2 := hide (rB_set N (2 * k + 1) (by omega))
   have b1 := hide (byt_lo N k)
   have b2 := hide (byt_hi N k)
   have z1 := hide (rB_size N (2 * k) (by omega))
   have z2 := hide (rB_size N (2 * k + 1) (by omega))
   have dl : 0 ≤ N / 65536 ^ k % 65536 ∧ N / 65536 ^ k % 65536 < 65536 := by omega
   generalize N / 65536 ^ k % 65536 = D at *
   have cb : (wr.setRow gk (rB N (2 * k + 1))).cell? ⟨w.heap.size, k, none⟩ = some (.int .u32 D) := by
    rw [← ca]
    simp only [World.cell?, setRow_other wr gk (w.heap.size) (rB N (2 * k + 1)) (by omega)]
   go_wp2_with (first | (refine wpList_load_cell31 rfl 64 _ rfl (w.heap.size) k rfl _ ca Tryd.underlying64 ?_) | (refine wpList_load_cell31 rfl 64 _ rfl (w.heap.size) k rfl _ cb Tryd.underlying64 ?_) | (refine wpList_store_cell31 rfl 5 _ _ rfl gk (2 * k) rfl (.int .u8 (D % 256)) rfl 25 _ rk (by rw [z1.out]; omega) (by kernel_rfl) rfl ?_; rw [b1.out, s1.out]) | (refine wpList_store_cell31 rfl 5 _ _ rfl gk (2 * k + 1) rfl (.int .u8 (D / 256)) rfl 25 _ (setRow_heap _ _ _ _ _ _ rk) (by rw [z2.out]; omega) (by kernel_rfl) rfl ?_; rw [b2.out, s2.out]; refine wpList_stay ?_) | fail)
   unfold WpStay
   have rn := setRow_heap (wr.setRow gk (rB N (2 * k + 1))) gk _ (rB N (2 * k + 1 + 1)) _ _ (setRow_heap wr gk _ (rB N (2 * k + 1)) _ _ rk)
   replace rp0 := (setRow_other _ gk (w.heap.size) (rB N (2 * k + 1 + 1)) (by omega)).trans ((setRow_other wr gk (w.heap.size) (rB N (2 * k + 1)) (by omega)).trans rp0)
   replace rp1 := (setRow_other _ gk (w.heap.size + 1) (rB N (2 * k + 1 + 1)) (by omega)).trans ((setRow_other wr gk (w.heap.size + 1) (rB N (2 * k + 1)) (by omega)).trans rp1)
   replace hw := below_setRow (below_setRow hw (show w.heap.size ≤ gk by omega) (rB N (2 * k + 1))) (show w.heap.size ≤ gk by omega) (rB N (2 * k + 1 + 1))
   generalize (wr.setRow gk (rB N (2 * k + 1))).setRow gk (rB N (2 * k + 1 + 1)) = wn at *
   rw [show 2 * k + 1 + 1 = 2 * (k + 1) by omega] at rn
   clear rk ca cb s1 s2 b1 b2 z1 z2
   go_wp2_with (fail)
   go_roundw
   case rel => exact ⟨k + 1, by omega, by go_num, rp0, rp1, rn, hw⟩
   case measure => simp [intOf]; omega
  ·have hd : decide ((k : Int) < 16) = false := by simp; omega
   obtain rfl : k = 16 := by omega
   replace rk : wr.heap[gk]? = some (.cells (kb N) 25 (0, 0)) := rk
   go_wp2_with (first | (refine wpList_load_want rfl 25 _ rfl gk rfl 25 (kb N) (0, 0) _ rk Tryd.underlying25 rfl (kb_info _) ?_) | (refine wpList_store_row rfl 25 _ _ rfl (w.heap.size + 1) (kb N) rfl rfl 25 _ rp1 (kb_info _) rfl (kb_one _) ?_) | fail)
   exact bodyPost_ret (v := .agg (kb N)) (results_cell_row Tryd.results37 _ _ (w.heap.size + 1) _ (kb N) _ _ rfl (setRow_heap _ _ _ _ _ _ rp1) Tryd.underlying25 rfl (kb_info _)) rfl ⟨rfl, below_setRow hw (by omega) _⟩
theorem d16_L : d16 L19 = #[.int .u32 54253, .int .u32 23797, .int .u32 25370, .int .u32 22546, .int .u32 40150, .int .u32 41719, .int .u32 63966, .int .u32 5342, .int .u32 0, .int .u32 0, .int .u32 0, .int .u32 0, .int .u32 0, .int .u32 0, .int .u32 0, .int .u32 4096] := by unfold L19; rfl
set_option maxRecDepth 100000 in
set_option maxHeartbeats 8000000 in
theorem r_order : Gives 92 #[] (.agg (d16 L19)) := by
 intro w
 rw [d16_L]
 go_enter Tryd.func92, Tryd.ntmps92
 go_wp2
 exact bodyPost_ret (v := .agg #[.int .u32 54253, .int .u32 23797, .int .u32 25370, .int .u32 22546, .int .u32 40150, .int .u32 41719, .int .u32 63966, .int .u32 5342, .int .u32 0, .int .u32 0, .int .u32 0, .int .u32 0, .int .u32 0, .int .u32 0, .int .u32 0, .int .u32 4096]) (results_cell_row Tryd.results92 _ _ (w.heap.size) _ #[.int .u32 54253, .int .u32 23797, .int .u32 25370, .int .u32 22546, .int .u32 40150, .int .u32 41719, .int .u32 63966, .int .u32 5342, .int .u32 0, .int .u32 0, .int .u32 0, .int .u32 0, .int .u32 0, .int .u32 0, .int .u32 0, .int .u32 4096] _ _ rfl (hp1_0 w _) Tryd.underlying65 rfl (by kernel_rfl)) rfl ⟨rfl, (Below.refl _ _).alloc (Nat.le_refl _) _⟩
set_option maxRecDepth 100000 in
set_option maxHeartbeats 8000000 in
theorem r_Order (w : World) : Calls Tryd.prog 47 #[] w fun e w' => ∃ v, e = .returned v ∧ BysK w' v (b32 L19) ∧ Below w.heap.size w w' := by
 have hw : Below w.heap.size w w := Below.refl _ _
 go_enter Tryd.func47, Tryd.ntmps47
 go_wp2_with (fail)
 refine (r_order.at _).mono ?_
 rintro e_ w1 ⟨rfl, hb⟩
 replace hw := Below.after hw hb
 clear hb
 go_wp2_with (first | (refine wpList_store_row rfl 67 _ _ rfl (w1.heap.size) (d16 L19) rfl rfl 67 #[.int .u32 0, .int .u32 0, .int .u32 0, .int .u32 0, .int .u32 0, .int .u32 0, .int .u32 0, .int .u32 0, .int .u32 0, .int .u32 0, .int .u32 0, .int .u32 0, .int .u32 0, .int .u32 0, .int .u32 0, .int .u32 0] (hp1_0 w1 _) (d16_infoR _) ((show _ = 16 from rfl).trans (d16_size _).symm) (d16_one _) ?_; rw [setRow_alloc_new _ _ _ _ _ _ (by simp)]; refine wpList_stay ?_) | (refine wpList_build_as rfl 67 _ rfl [(0, .agg (d16 L19))] rfl (d16 L19) (by kernel_rfl) ?_) | fail)
 unfold WpStay
 try simp only [Act.put]
 have rl1 : (w1.alloc (.cells (d16 L19) 67)).heap[w1.heap.size]? = some (.cells (d16 L19) 67 (0, 0)) := hp1_0 w1 _
 have hb : Below w1.heap.size w1 (w1.alloc (.cells (d16 L19) 67)) := ((Below.refl _ _).alloc (Nat.le_refl _) _)
 generalize (w1.alloc (.cells (d16 L19) 67)) = w2 at *
 have sz_g1 := hw.size
 replace hw := Below.after hw hb
 clear hb
 generalize w1.heap.size = g1 at *
 clear w1
 go_wp2_with (first | (refine wpList_load_want rfl 67 _ rfl (g1) rfl 67 (d16 L19) (0, 0) _ rl1 Tryd.underlying67 rfl (d16_infoR _) ?_) | fail)
 refine ((r_sBytes L19).at _).mono ?_
 rintro e_ w3 ⟨rfl, hb⟩
 replace rl1 := keep hb rl1
 replace hw := Below.after hw hb
 clear hb
 go_wp2_with (first | (refine wpList_store_row rfl 25 _ _ rfl (w3.heap.size) (kb L19) rfl rfl 25 (kb 0) (hp1_0 w3 _) (kb_info _) ((kb_size _).trans (kb_size _).symm) (kb_one _) ?_; rw [setRow_alloc_new _ _ _ _ _ _ (by simp)]; refine wpList_stay ?_) | fail)
 unfold WpStay
 try simp only [Act.put]
 have rl2 : (w3.alloc (.cells (kb L19) 25)).heap[w3.heap.size]? = some (.cells (kb L19) 25 (0, 0)) := hp1_0 w3 _
 have hb : Below w3.heap.size w3 (w3.alloc (.cells (kb L19) 25)) := ((Below.refl _ _).alloc (Nat.le_refl _) _)
 generalize (w3.alloc (.cells (kb L19) 25)) = w4 at *
 have lt_g2_0 := lt_of_row rl1
 have sz_g2 := hw.size
 replace rl1 := keep hb rl1
 replace hw := Below.after hw hb
 clear hb
 generalize w3.heap.size = g2 at *
 clear w3
 go_wp2_with (fail)
 go_ret
 exact ⟨_, rfl, bysK_row rl2, hw⟩
end Go.Proofs.YtajaiiidafkijaaDoor
namespace Go.Proofs.YtajaiiidafkijaaDoor
set_option maxRecDepth 100000
open Go Go.RowKit Go.Sort
attribute [local go_sem] setCell_drewN alloc_drewN
theorem lt_of_row' {w : World} {g : Nat} {cs : Array Value} {t : TypeId} {fr : Nat × Nat} (h : w.heap[g]? = some (.cells cs t fr)) : g < w.heap.size := (Array.getElem?_eq_some_iff.1 h).1
end Go.Proofs.YtajaiiidafkijaaDoor

