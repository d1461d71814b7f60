import Derived.Test.YtlbcdjflcghkeaaDoorProg
import Derived.WalkKit
import Derived.Below
import Derived.Lib.QuietBelow
import Derived.BigQuiet
import Derived.Shelf.Strconv.Itoa1
import Derived.Shelf.Strconv.Itoa2
import Derived.Shelf.LaysM
import Derived.Lib.Walk
import Derived.Lib.ItoaMem
import Derived.Lib.AppendIntMem
import Derived.Shelf.Strings.OnBuilder
import Derived.Shelf.Strings.Repeat
import Derived.BigCall
import Derived.Laws.BitsAllLaws
import Derived.BigGuard
import Derived.Test.YtlbcdjflcghkeaaDoorKa
import Derived.Test.YtlbcdjflcghkeaaDoorAha
import Derived.Test.YtlbcdjflcghkeaaDoorAhs
namespace Go.Proofs.YtlbcdjflcghkeaaDoor
set_option maxRecDepth 100000
open Go Go.Shelf Go.RowKit Go.Sort Go.Lib
theorem c_small (i : Nat) (h : i < 100) (w : World) : Calls Tryd.prog 79 #[.int .i64 i] w fun e w' => e = .returned (.string ⟨(Lib.decDigits i).toArray⟩) ∧ w' = w := Any.internal_strconv_small lays283 i h w
theorem c_digits (u : Nat) (h1 : 1 ≤ u) (h2 : u < 18446744073709551616) (w : World) (htab : Lib.TabIs Tryd.prog w "internal/strconv.uint64pow10" .u64 Lib.pow10Tab) : Calls Tryd.prog 80 #[.int .u64 u] w fun e w' => e = .returned (.int .i64 (Lib.nDigits u)) ∧ w' = w := Any.internal_strconv_numDigits laysM284 u h1 h2 w htab
theorem c_base10 (blk off cap : Nat) (u : Nat) (d : Array UInt8) (w : World) (hH : Holds (fun (b : UInt8) => Value.int .u8 (b.toNat : Int)) w blk off d) (hu : u < 10 ^ d.size) (hu64 : u < 18446744073709551616) (hsz : d.size < 4611686018427387904) : Calls Tryd.prog 81 #[.slice (some ⟨blk, off, none⟩) d.size cap, .int .u64 u] w fun e w' => e = .returned (.tuple #[]) ∧ ∃ (n v' : Nat) (dk : Array UInt8), w' = (putRow (fun (b : UInt8) => Value.int .u8 (b.toNat : Int)) w blk off dk).drewN n ∧ FmtInv d.size u 0 v' dk := Any.internal_strconv_formatBase10 lays285 blk off cap u d w hH hu hu64 hsz
set_option maxHeartbeats 6400000 in
set_option maxRecDepth 100000 in
theorem c_fmtI (u : Nat) (hu : u < 100000) (w : World) (htab : Lib.TabIs Tryd.prog w "internal/strconv.uint64pow10" .u64 Lib.pow10Tab) : Calls Tryd.prog 71 #[.int .u64 u, .int .i64 10] w fun e w' => e = .returned (.string ⟨(Lib.decDigits u).toArray⟩) ∧ Below w.heap.size w w' := by
  by_cases hs : u < 100
  · have hd : decide ((u : Int) < 100) = true := by simp; omega
    have hc : IntKind.i64.wrap (u : Int) = u := by rw [IntKind.wrap_i64]; omega
    go_enter Tryd.func71, Tryd.ntmps71
    go_wp2_with (fail)
    refine (c_small u hs _).mono ?_
    rintro e_ w' ⟨rfl, rfl⟩
    go_wp2_with (fail)
    go_ret
    exact ⟨rfl, Below.refl _ _⟩
  · have hd : decide ((u : Int) < 100) = false := by simp; omega
    have hnd := (dec_le5 u hu).2
    rw [decDigits_length] at hnd
    have hH0 := Lib.holds_zero0 w 129 (Lib.nDigits u) (by omega)
    have hfmt := c_base10 w.heap.size 0 24 u (Array.replicate (Lib.nDigits u) 0) (w.alloc (.cells Lib.zeros24 129)) hH0 (by rw [Array.size_replicate]; exact Lib.lt_pow_nDigits u) (by omega) (by rw [Array.size_replicate]; omega)
    rw [Array.size_replicate] at hfmt
    have HH0 := Lib.hid hH0
    clear hH0
    have cN := c_digits u (by omega) (by omega) _ (Lib.tabIs_alloc htab (.cells Lib.zeros24 129))
    have hsl : ∀ W, (Instr.sliceAt 129 (.pointer (some ⟨w.heap.size, 0, none⟩)) none (some (.int .i64 (Lib.nDigits u))) none).run Tryd.prog W = .ok (.slice (some ⟨w.heap.size, 0, none⟩) (Lib.nDigits u) 24) W := fun W => by
      have hal : Tryd.prog.arrayLen 129 = 24 := by simp [Program.arrayLen, Tryd.underlying129]
      rw [run_sliceAt_array_h W 129 ⟨w.heap.size, 0, none⟩ (by simp [Program.arrayLen, Program.elem, Tryd.underlying129]) .i64 (Lib.nDigits u : Int) (by omega) (by rw [hal]; omega)]
      go_simp
    go_enter Tryd.func71, Tryd.ntmps71
    go_wp2_with (fail)
    refine cN.mono ?_
    rintro e_ w' ⟨rfl, rfl⟩
    go_wp2_with (fail)
    refine hfmt.mono ?_
    rintro e_ w' ⟨rfl, k, v', dk, rfl, hF⟩
    have hcv : (convert 67 9 (.slice (some ⟨w.heap.size, 0, none⟩) (Lib.nDigits u) 24)).run Tryd.prog ((putRow (fun (b : UInt8) => Value.int .u8 (b.toNat : Int)) (w.alloc (.cells Lib.zeros24 129)) w.heap.size 0 dk).drewN k) = .ok (.string ⟨(Lib.decDigits u).toArray⟩) ((putRow (fun (b : UInt8) => Value.int .u8 (b.toNat : Int)) (w.alloc (.cells Lib.zeros24 129)) w.heap.size 0 dk).drewN k) := by
      have h := run_convert_bytes_back (P := Tryd.prog) ((putRow (fun (b : UInt8) => Value.int .u8 (b.toNat : Int)) (w.alloc (.cells Lib.zeros24 129)) w.heap.size 0 dk).drewN k) 67 9 5 ⟨w.heap.size, 0, none⟩ 24 (Lib.decDigits u) Tryd.underlying67 Tryd.underlying5 Tryd.underlying9 (fun j hj => by
        rw [Lib.row_is_numeral hF j hj, Lib.add_plain, World.cell?_drewN]
        exact cell?_putRow (fun (b : UInt8) => Value.int .u8 (b.toNat : Int)) _ w.heap.size 0 _ dk HH0.out (by rw [hF.size, Array.size_replicate]) j (by rw [hF.size]; rw [Lib.decDigits_length] at hj; exact hj))
      rw [Lib.decDigits_length] at h
      exact h
    have hb : Below w.heap.size w ((putRow (fun (b : UInt8) => Value.int .u8 (b.toNat : Int)) (w.alloc (.cells Lib.zeros24 129)) w.heap.size 0 dk).drewN k) := by
      obtain ⟨os, eo⟩ := Lib.fin_at w (.cells Lib.zeros24 129) dk k 0
      rw [eo]
      exact Lib.below_grow _ w (Nat.le_refl _) k os
    generalize (putRow (fun (b : UInt8) => Value.int .u8 (b.toNat : Int)) (w.alloc (.cells Lib.zeros24 129)) w.heap.size 0 dk).drewN k = w2 at *
    go_wp2_with (fail)
    go_ret
    exact ⟨rfl, hb⟩
theorem x156 : Builder.Extra Tryd.prog lays156_ren := {
  sizeBuilder := by kernel_rfl
  liesBuilder := by kernel_rfl
  t5 := Tryd.underlying5
  a5 := Tryd.isAgg5
  z5 := Tryd.sizeOf5
  v5 := Tryd.zeroValue5
  infoByte := by kernel_rfl
  cellsByte := by kernel_rfl
  sizeByte := by kernel_rfl
  neB5 := by decide }
theorem x105 : Builder.Extra Tryd.prog lays105_ren := {
  sizeBuilder := by kernel_rfl
  liesBuilder := by kernel_rfl
  t5 := Tryd.underlying5
  a5 := Tryd.isAgg5
  z5 := Tryd.sizeOf5
  v5 := Tryd.zeroValue5
  infoByte := by kernel_rfl
  cellsByte := by kernel_rfl
  sizeByte := by kernel_rfl
  neB5 := by decide }
theorem c_join (bk o c : Nat) (xs : List ByteArray) (sep : ByteArray) (w : World) (hcells : ∀ (j : Nat) x, xs[j]? = some x → w.cell? ⟨bk, o + j, none⟩ = some (.string x)) (hbk : bk < w.heap.size) (hN : xs.length ≤ 140737488355328) (hcap : xs.length ≤ c) (hlen : (Lib.join (xs.map (·.data.toList)) sep.data.toList).length ≤ 140737488355328) : Calls Tryd.prog 31 #[.slice (some ⟨bk, o, none⟩) xs.length c, .string sep] w fun e w' => e = .returned (.string ⟨(Lib.join (xs.map (·.data.toList)) sep.data.toList).toArray⟩) ∧ Below w.heap.size w w' := Any.strings_Join lays156 x156 bk o c xs sep w hcells hbk hN hcap hlen
theorem c_repeat (s : ByteArray) (c : Nat) (w : World) (hc : c ≤ 9223372036854775807) (hlen : s.size * c ≤ 140737488355328) : Calls Tryd.prog 61 #[.string s, .int .i64 c] w fun e w' => e = .returned (.string ⟨(Lib.repeatL s.data.toList c).toArray⟩) ∧ Below w.heap.size w w' := Any.strings_Repeat lays105 x105 s c w hc hlen
set_option maxRecDepth 100000 in
theorem c_fmt (u : Nat) (hu : u < 100000) (w : World) (htab : Lib.TabIs Tryd.prog w "internal/strconv.uint64pow10" .u64 Lib.pow10Tab) : Calls Tryd.prog 60 #[.int .u64 u, .int .i64 10] w fun e w' => e = .returned (.string ⟨(Lib.decDigits u).toArray⟩) ∧ Below w.heap.size w w' := by
  go_enter Tryd.func60, Tryd.ntmps60
  go_wp2_with (fail)
  refine (c_fmtI u hu w htab).mono ?_
  rintro e_ w2 ⟨rfl, hb⟩
  go_wp2_with (fail)
  go_ret
  exact ⟨rfl, hb⟩
/-- Five bytes as a number, the highest first. -/
def be5 (l : List Nat) : Nat := l.foldl (fun n x => n * 256 + x) 0
theorem be5_snoc (l : List Nat) (x : Nat) : be5 (l ++ [x]) = be5 l * 256 + x := by simp [be5]
theorem be5_take (l : List Nat) (k : Nat) (h : k < l.length) : be5 (l.take (k + 1)) = be5 (l.take k) * 256 + l[k] := by
  rw [← be5_snoc, List.take_append_getElem]
theorem be5_lt (l : List Nat) (hz : ∀ x ∈ l, x < 256) (k : Nat) (h : k ≤ l.length) : be5 (l.take k) < 256 ^ k := by
  induction k with
  | zero => simp [be5]
  | succ k ih =>
    rw [be5_take l k (by omega), Nat.pow_succ]
    have := ih (by omega)
    have := hz _ (List.getElem_mem (by omega : k < l.length))
    omega
theorem or8 (n x : Nat) (hn : n < 72057594037927936) (hx : x < 256) : bits .or .u64 (IntKind.u64.wrap ((n : Int) * 256)) (x : Int) = ((n * 256 + x : Nat) : Int) := by
  have e : IntKind.u64.wrap ((n : Int) * 256) = ((n * 256 : Nat) : Int) := by rw [IntKind.wrap_u64]; omega
  rw [e, u64_or_nat _ _ (by omega) (by omega)]
  have := Nat.two_pow_add_eq_or_of_lt (i := 8) (b := x) hx n
  rw [show n * 256 = 2 ^ 8 * n by omega, this]
set_option maxHeartbeats 4000000 in
set_option maxRecDepth 100000 in
theorem c_group (g o cap : Nat) (l : List Nat) (hl : l.length = 5) (hz : ∀ x ∈ l, x < 256) (w : World) (hc : ∀ (j x : Nat), l[j]? = some x → w.cell? ⟨g, o + j, none⟩ = some (.int .u8 (x : Int))) (htab : Lib.TabIs Tryd.prog w "internal/strconv.uint64pow10" .u64 Lib.pow10Tab) : Calls Tryd.prog 45 #[.slice (some ⟨g, o, none⟩) 5 cap] w fun e w' => e = .returned (.string ⟨(dig5 (be5 l % 100000)).toArray⟩) ∧ Below w.heap.size w w' := by
  go_enter Tryd.func45, Tryd.ntmps45
  go_wp2_with (fail)
  go_loopw [3, 9] (fun n i wr => ∃ k : Nat, k ≤ 5 ∧ i = .int .i64 k ∧ n = .int .u64 ((be5 (l.take k) : Nat) : Int) ∧ wr = w) (fun _ i _ => 5 - (RowKit.intOf i).toNat)
  case atStart => exact ⟨0, by omega, rfl, rfl, rfl⟩
  case round =>
    obtain ⟨k, hk, rfl, rfl, rfl⟩ := hrel
    by_cases hlt : k < 5
    · have hd : decide ((k : Int) < 5) = true := by simp; omega
      have hx : l[k]? = some l[k] := List.getElem?_eq_getElem (by omega)
      have hck := hc k _ hx
      have hb := hz _ (List.getElem_mem (by omega : k < l.length))
      have hn := be5_lt l hz k (by omega)
      have hp : 256 ^ k ≤ 256 ^ 5 := Nat.pow_le_pow_right (by omega) (by omega)
      have ho := or8 (be5 (l.take k)) l[k] (by omega) hb
      rw [← be5_take l k (by omega)] at ho
      clear hn hp
      go_wp2_with (fail)
      refine ⟨⟨k + 1, by omega, by go_num, rfl, trivial⟩, ?_⟩
      simp [RowKit.intOf]; omega
    · obtain rfl : k = 5 := by omega
      rw [List.take_of_length_le (by omega : l.length ≤ 5)]
      have hm : be5 l % 100000 < 100000 := Nat.mod_lt _ (by omega)
      have hc5 := c_fmt _ hm wr htab
      rw [show ((be5 l % 100000 : Nat) : Int) = (be5 l : Int) % 100000 by omega] at hc5
      have hp5 := pad5 _ hm
      have hl5 := (dec_le5 _ hm).2
      go_wp2_with (fail)
      refine hc5.mono ?_
      rintro e_ w2 ⟨rfl, hb2⟩
      generalize hN : be5 l % 100000 = N at *
      replace hN := Lib.hid hN
      have sz : ByteArray.size ⟨(decDigits N).toArray⟩ = (decDigits N).length := by simp [ByteArray.size]
      have hsub : (5 : Int) - ((decDigits N).length : Int) = ((5 - (decDigits N).length : Nat) : Int) := by omega
      have hrep := c_repeat ⟨#[48]⟩ (5 - (decDigits N).length) w2 (by omega) (by simp [ByteArray.size]; omega)
      have er : repeatL [48] (5 - (decDigits N).length) = List.replicate (5 - (decDigits N).length) 48 := by
        have := repeatL_replicate 48 1 (5 - (decDigits N).length)
        simpa using this
      have hcat : ¬ 9223372036854775807 < (repeatL [48] (5 - (decDigits N).length)).length + (decDigits N).length := by rw [er]; simp; omega
      replace er := Lib.hid er
      clear hc5
      go_wp2_with (fail)
      refine hrep.mono ?_
      rintro e_ w3 ⟨rfl, hb3⟩
      go_wp2_with (fail)
      go_ret
      refine ⟨?_, hb2.trans (hb3.mono hb2.size)⟩
      have ea : ∀ x y : List UInt8, (ByteArray.mk x.toArray) ++ (ByteArray.mk y.toArray) = ByteArray.mk (x ++ y).toArray := fun x y => by
        apply ByteArray.ext
        simp
      rw [er.out, ea, hp5, hN.out]
      rfl
end Go.Proofs.YtlbcdjflcghkeaaDoor
