import Derived.Test.YtnbkdlfkacbfjaaProg
import Derived.WalkKit
import Derived.WalkSpells
import Derived.WalkLawsBesides
import Derived.Lib.QuietBelow
import Derived.Laws.BitsAllLaws
import Derived.BigQuiet
import Derived.WalkMore
import Derived.Test.YtnbkdlfkacbfjaaKit
import Derived.Test.YtnbkdlfkacbfjaaWu
namespace Go.Proofs.Ytnbkdlfkacbfjaa
open Go Go.RowKit Go.Sort
attribute [local go_sem] setCell_drewN alloc_drewN

/-- How many bytes the fields' data have. -/
def dsm : List Fd → Nat
  | [] => 0
  | f :: l => f.dat.length + dsm l
theorem dsm_app (a b : List Fd) : dsm (a ++ b) = dsm a + dsm b := by
  induction a with
  | nil => simp [dsm]
  | cons p l ih => rw [List.cons_append, dsm, dsm, ih]; omega
theorem dsm_snoc (fs : List Fd) (k : Nat) (h : k < fs.length) : dsm (fs.take (k + 1)) = dsm (fs.take k) + (gf fs k).dat.length := by
  rw [ftake_snoc fs k h, dsm_app, dsm, dsm, Nat.add_zero]
theorem fby_dat {f : Fd} (hf : fits f) (_hk : known f.ty) : f.dat.length ≤ (fby f).length := by
  have h2 := (fits_iff f).1 hf
  rw [fby, List.length_append]
  by_cases t2 : f.ty = 2
  · have : fvl f = itm f.dat := by unfold fvl; rw [if_neg (by omega), if_neg (by omega), if_neg (by omega)]
    rw [this, itm_len]
    omega
  · rw [if_neg t2] at h2
    rw [h2.1]
    simp
theorem fby_small {f : Fd} (_hf : fits f) (hf2 : Fok f) (hk : known f.ty) (h1 : f.no ≤ 536870911) : (fby f).length ≤ f.dat.length + 30 := by
  have h3 := en_ten (Fok.hd h1 (known_lt hk).2)
  have h4 := en_ten hf2.1
  have h5 := itm_len f.dat
  have h6 := en_ten (n := f.dat.length) (by have := hf2.2.1; omega)
  rw [fby, List.length_append]
  unfold fvl
  split
  · omega
  · split
    · rw [fx_len]; omega
    · split
      · rw [fx_len]; omega
      · omega
theorem dsm_le {fs : List Fd} : ∀ k, k ≤ fs.length → (∀ i, i < k → fck (gf fs i) (lst fs i) = 0) → dsm (fs.take k) ≤ (ebs (fs.take k)).length
  | 0, _, _ => by simp [dsm]
  | k + 1, hk, h => by
    have h1 := dsm_le k (by omega) (fun i hi => h i (by omega))
    have h2 := fck_ok (h k (by omega))
    have h3 := fby_dat h2.2.2.2 h2.2.2.1
    rw [dsm_snoc fs k (by omega), ebs_snoc fs k (by omega), List.length_append]
    omega
theorem ebs_small {fs : List Fd} (hF : ∀ i, i < fs.length → Fok (gf fs i)) : ∀ k, k ≤ fs.length → (∀ i, i < k → fck (gf fs i) (lst fs i) = 0) → (ebs (fs.take k)).length ≤ dsm (fs.take k) + 30 * k
  | 0, _, _ => by simp [ebs]
  | k + 1, hk, h => by
    have h1 := ebs_small hF k (by omega) (fun i hi => h i (by omega))
    have h2 := fck_ok (h k (by omega))
    have h3 := fby_small h2.2.2.2 (hF k (by omega)) h2.2.2.1 h2.2.1
    rw [dsm_snoc fs k (by omega), ebs_snoc fs k (by omega), List.length_append]
    omega
theorem dsm_bd {fs : List Fd} (hF : ∀ i, i < fs.length → Fok (gf fs i)) : ∀ k, k ≤ fs.length → dsm (fs.take k) ≤ k * 140737488351232
  | 0, _ => by simp [dsm]
  | k + 1, hk => by
    have h1 := dsm_bd hF k (by omega)
    have h2 := (hF k (by omega)).2.1
    rw [dsm_snoc fs k (by omega)]
    omega
theorem dsm_mono (fs : List Fd) (k : Nat) : dsm (fs.take k) ≤ dsm fs := by
  conv => rhs; rw [← List.take_append_drop k fs, dsm_app]
  omega
end Go.Proofs.Ytnbkdlfkacbfjaa
