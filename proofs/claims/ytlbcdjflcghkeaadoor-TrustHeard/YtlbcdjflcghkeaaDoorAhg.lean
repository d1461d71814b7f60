import Derived.Test.YtlbcdjflcghkeaaDoorAhf
import Derived.Lib.Bytealg
import Derived.Lib.BytesEntry
import Derived.Lib.Join
import Derived.Laws.BytesArg
namespace Go.Proofs.YtlbcdjflcghkeaaDoor
set_option maxRecDepth 100000
open Go Go.Lib Go.RowKit
theorem cmp_flip : ∀ a b : List UInt8, compareBytes b a = - compareBytes a b
  | [], [] => rfl
  | [], _ :: _ => rfl
  | _ :: _, [] => rfl
  | x :: a, y :: b => by
    unfold compareBytes
    by_cases h1 : x < y
    · have h2 : ¬ y < x := fun h => by simp only [UInt8.lt_iff_toNat_lt] at h h1; omega
      simp [h1, h2]
    · by_cases h2 : y < x
      · simp [h1, h2]
      · simp [h1, h2, cmp_flip a b]
theorem cmp_zero : ∀ a b : List UInt8, compareBytes a b = 0 → a = b
  | [], [], _ => rfl
  | [], _ :: _, h => by simp [compareBytes] at h
  | _ :: _, [], h => by simp [compareBytes] at h
  | x :: a, y :: b, h => by
    unfold compareBytes at h
    by_cases h1 : x < y
    · simp [h1] at h
    · by_cases h2 : y < x
      · simp [h1, h2] at h
      · simp only [h1, h2, if_false] at h
        have e : x = y := UInt8.toNat_inj.1 (by simp only [UInt8.lt_iff_toNat_lt] at h1 h2; omega)
        rw [e, cmp_zero a b h]
theorem cmp_less : ∀ a b : List UInt8, Op.bytesLess b a = decide (0 < compareBytes a b)
  | [], [] => rfl
  | [], _ :: _ => rfl
  | _ :: _, [] => rfl
  | x :: a, y :: b => by
    unfold compareBytes Op.bytesLess
    by_cases h1 : x < y
    · have h2 : ¬ y < x := fun h => by simp only [UInt8.lt_iff_toNat_lt] at h h1; omega
      have h3 : (y == x) = false := by
        simp only [beq_eq_false_iff_ne, ne_eq]
        rintro rfl
        exact UInt8.lt_irrefl _ h1
      simp [h1, h2, h3]
    · by_cases h2 : y < x
      · simp [h1, h2]
      · have e : y = x := UInt8.toNat_inj.1 (by simp only [UInt8.lt_iff_toNat_lt] at h1 h2; omega)
        subst e
        simp [h1, cmp_less a b]
/-- The bytes of a key, as a string has them. -/
def kst (k : List Int) : ByteArray := strOfNums k
theorem kst_inj {a b : List Int} (ha : ∀ x ∈ a, 0 ≤ x ∧ x < 256) (hb : ∀ x ∈ b, 0 ≤ x ∧ x < 256) (h : (kst a).data.toList = (kst b).data.toList) : a = b := by
  simp only [kst, strOfNums_data] at h
  induction a generalizing b with
  | nil => cases b with
    | nil => rfl
    | cons y b => simp at h
  | cons x a ih => cases b with
    | nil => simp at h
    | cons y b =>
      simp only [List.map_cons, List.cons.injEq] at h
      have h1 := ha x (by simp)
      have h2 := hb y (by simp)
      have e := congrArg UInt8.toNat h.1
      simp only [UInt8.toNat_ofNat'] at e
      have e2 : x = y := by omega
      rw [e2, ih (fun z hz => ha z (by simp [hz])) (fun z hz => hb z (by simp [hz])) h.2]
/-- Whether the second key comes first. -/
def swp (a b : List Int) : Bool := decide (0 < compareBytes (kst a).data.toList (kst b).data.toList)
theorem swp_flip {a b : List Int} (ha : ∀ x ∈ a, 0 ≤ x ∧ x < 256) (hb : ∀ x ∈ b, 0 ≤ x ∧ x < 256) (h : swp a b = false) (h2 : swp b a = false) : a = b := by
  simp only [swp, decide_eq_false_iff_not, Int.not_lt] at h h2
  rw [cmp_flip] at h2
  exact kst_inj ha hb (cmp_zero _ _ (by omega))
theorem swp_not {a b : List Int} (h : swp a b = true) : swp b a = false := by
  simp only [swp, decide_eq_true_eq, decide_eq_false_iff_not] at h ⊢
  rw [cmp_flip]
  omega
/-- The digits of a key, with a blank ahead of each group. -/
def dgs (h : List Int) (n : Nat) : List UInt8 := joinTail [32] ((gps h n).map (·.data.toList))
theorem dgs_succ (h : List Int) (n : Nat) : dgs h (n + 1) = dgs h n ++ (32 :: (grp h n).data.toList) := by
  simp [dgs, gps_succ, joinTail]
theorem dgs_len (h : List Int) : ∀ n, (dgs h n).length = 6 * n
  | 0 => rfl
  | n + 1 => by rw [dgs_succ, List.length_append, dgs_len h n, List.length_cons]; simp [grp, dig5]; omega
/-- The number: both keys' groups. -/
def sfs (h1 h2 : List Int) : ByteArray := ⟨(join ((gps h1 6 ++ gps h2 6).map (·.data.toList)) [32]).toArray⟩
theorem sfs_eq (h1 h2 : List Int) : (sfs h1 h2).data.toList = (dgs h1 6 ++ dgs h2 6).drop 1 := by
  have e : gps h1 6 = grp h1 0 :: ((gps h1 6).drop 1) := by simp [gps, List.range_succ]
  have e2 : (sfs h1 h2).data.toList = join ((gps h1 6 ++ gps h2 6).map (·.data.toList)) [32] := rfl
  rw [e2]
  unfold dgs
  generalize gps h2 6 = l2 at *
  rw [e]
  generalize (gps h1 6).drop 1 = l1
  simp [join_cons, joinTail]
theorem sfs_size (h1 h2 : List Int) : (sfs h1 h2).data.toList.length = 71 := by
  rw [sfs_eq, List.length_drop, List.length_append, dgs_len, dgs_len]
/-- The safety number of two keys. -/
def saf (a b : List Int) (r : Nat) : ByteArray := if swp a b then sfs (hrs b (r - 1)) (hrs a (r - 1)) else sfs (hrs a (r - 1)) (hrs b (r - 1))
theorem saf_comm {a b : List Int} (ha : ∀ x ∈ a, 0 ≤ x ∧ x < 256) (hb : ∀ x ∈ b, 0 ≤ x ∧ x < 256) (r : Nat) : saf a b r = saf b a r := by
  unfold saf
  cases h : swp a b
  · cases h2 : swp b a
    · rw [swp_flip ha hb h h2]
    · simp
  · rw [swp_not h]
    simp
/-- What bytes.Compare's own entry answers for two rows of bytes. -/
theorem run_cmp {P : Program} (w : World) (g1 o1 c1 g2 o2 c2 : Nat) (a b : List Int) (h1 : ∀ j x, a[j]? = some x → w.cell? ⟨g1, o1 + j, none⟩ = some (.int .u8 x)) (h2 : ∀ j x, b[j]? = some x → w.cell? ⟨g2, o2 + j, none⟩ = some (.int .u8 x)) :
    (Extern.BytealgCompare.compare #[.slice (some ⟨g1, o1, none⟩) a.length c1, .slice (some ⟨g2, o2, none⟩) b.length c2]).run P w = .ok (.int .i64 (compareBytes (kst a).data.toList (kst b).data.toList)) w := by
  have e1 := run_loadBytesX (P := P) w a ⟨g1, o1, none⟩ .empty (fun j x hj => by rw [addr_add]; exact h1 j x hj)
  have e2 := run_loadBytesX (P := P) w b ⟨g2, o2, none⟩ .empty (fun j x hj => by rw [addr_add]; exact h2 j x hj)
  change Sem.run P (do pure (goInt (Extern.BytealgCompare.cmp (← Extern.Bytes.bytesOf (.slice (some ⟨g1, o1, none⟩) a.length c1)) (← Extern.Bytes.bytesOf (.slice (some ⟨g2, o2, none⟩) b.length c2))))) w = _
  simp only [Extern.Bytes.bytesOf, Sem.run_bind, Sem.run_pure, Result.andThen, e1, e2]
  rw [cmp_eq]
  have f : ∀ l : List Int, (ByteArray.empty.data ++ (bytesOf l).toArray).toList = (kst l).data.toList := fun l => by simp [kst, strOfNums, bytesOf, ByteArray.empty, ByteArray.emptyWithCapacity]; rfl
  rw [f, f]
  rfl
end Go.Proofs.YtlbcdjflcghkeaaDoor
