import Derived.Test.YtnbkdlfkacbfjaaProg
import Derived.WalkKit
import Derived.WalkSpells
import Derived.WalkLawsBesides
import Derived.Lib.QuietBelow
import Derived.Laws.BitsAllLaws
import Derived.BigQuiet
import Derived.WalkMore
import Derived.Test.YtnbkdlfkacbfjaaKit
import Derived.Test.YtnbkdlfkacbfjaaWr
namespace Go.Proofs.Ytnbkdlfkacbfjaa
open Go Go.RowKit Go.Sort
attribute [local go_sem] setCell_drewN alloc_drewN

theorem lst_nn {fs : List Fd} : ∀ k, (∀ i, i < k → fck (gf fs i) (lst fs i) = 0) → 0 ≤ lst fs k
  | 0, _ => by rw [lst, if_pos rfl]; exact Int.le_refl _
  | k + 1, h => by
    have h1 := lst_nn k (fun i hi => h i (by omega))
    have h2 := (fck_ok (h k (by omega))).1
    rw [lst_succ]
    omega
theorem ech_at {fs : List Fd} : ∀ k, k ≤ fs.length → (∀ i, i < k → fck (gf fs i) (lst fs i) = 0) → ech fs 0 = ech (fs.drop k) (lst fs k)
  | 0, _, _ => by rw [lst, if_pos rfl]; rfl
  | k + 1, hk, h => by
    rw [ech_at k (by omega) (fun i hi => h i (by omega)), fdrop_at fs k (by omega), ech, if_neg (by rw [h k (by omega)]; simp), lst_succ]
theorem fvl_bd {f : Fd} (hf : Fok f) : (fvl f).length ≤ 140737488351242 := by
  have h1 := en_ten hf.1
  have h2 := itm_len f.dat
  have h3 := en_ten (n := f.dat.length) (by have := hf.2.1; omega)
  have h4 := hf.2.1
  unfold fvl
  split
  · omega
  · split
    · rw [fx_len]; omega
    · split
      · rw [fx_len]; omega
      · omega
theorem fby_bd {f : Fd} (hf : Fok f) (h1 : f.no ≤ 536870911) (h2 : f.ty < 8) : (fby f).length ≤ 140737488351252 := by
  have := fvl_bd hf
  have := en_ten (Fok.hd h1 h2)
  rw [fby, List.length_append]
  omega
theorem ebs_bd {fs : List Fd} (hF : ∀ i, i < fs.length → Fok (gf fs i)) : ∀ k, k ≤ fs.length → (∀ i, i < k → fck (gf fs i) (lst fs i) = 0) → (ebs (fs.take k)).length ≤ k * 140737488351252
  | 0, _, _ => by simp [ebs]
  | k + 1, hk, h => by
    have h1 := ebs_bd hF k (by omega) (fun i hi => h i (by omega))
    have h2 := fck_ok (h k (by omega))
    have h3 := fby_bd (hF k (by omega)) h2.2.1 (known_lt h2.2.2.1).2
    rw [ebs_snoc fs k (by omega), List.length_append]
    omega
theorem Fds.oks {W : World} {v : Value} {fs : List Fd} (h : Fds W v fs) : ∀ i, i < fs.length → Fok (gf fs i) := fun _ hi => h.ok hi
end Go.Proofs.Ytnbkdlfkacbfjaa
