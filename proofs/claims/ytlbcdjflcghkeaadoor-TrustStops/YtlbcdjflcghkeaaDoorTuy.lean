import Derived.Test.YtlbcdjflcghkeaaDoorTuw
namespace Go.Proofs.YtlbcdjflcghkeaaDoor
set_option maxRecDepth 100000
open Go Go.RowKit
/-- One cell of a row set is the row written anew. -/
theorem set_one {cur : Array Value} {o j : Nat} {xs : List Value} (v : Value) (h : ∀ t x, xs[t]? = some x → cur[o + t]? = some x) (hj : j < xs.length) : cur.setIfInBounds (o + j) v = ovw cur o (xs.set j v) := by
  have hfit : o + (xs.set j v).length ≤ cur.size := by
    rw [List.length_set]
    have h1 := h (xs.length - 1) _ (List.getElem?_eq_getElem (show xs.length - 1 < xs.length by omega))
    have := (Array.getElem?_eq_some_iff.1 h1).1
    omega
  apply Array.ext'
  rw [tovw_list cur o _ hfit, Array.toList_setIfInBounds]
  have hol : (cur.toList.take o).length = o := by rw [List.length_take, Array.length_toList (xs := cur)]; rw [List.length_set] at hfit; omega
  apply List.ext_getElem?
  intro t
  rw [List.getElem?_set]
  by_cases h1 : t < o
  · rw [List.getElem?_append_left (by rw [hol]; exact h1), List.getElem?_take_of_lt h1, if_neg (by omega)]
  · rw [List.getElem?_append_right (by rw [hol]; omega), hol]
    by_cases h2 : t - o < xs.length
    · rw [List.getElem?_append_left (by rw [List.length_set]; exact h2), List.getElem?_set]
      by_cases h3 : o + j = t
      · have h4 : j = t - o := by omega
        rw [if_pos h3, if_pos h4, if_pos hj]
        rw [if_pos (by rw [Array.length_toList (xs := cur)]; rw [List.length_set] at hfit; omega)]
      · rw [if_neg h3, if_neg (by omega)]
        have := h (t - o) _ (List.getElem?_eq_getElem h2)
        rw [show o + (t - o) = t by omega] at this
        rw [List.getElem?_eq_getElem h2, Array.getElem?_toList, this]
    · rw [List.getElem?_append_right (by rw [List.length_set]; omega), List.getElem?_drop, if_neg (by omega)]
      congr 1
      rw [List.length_set]
      omega
theorem knl_seto (a : Kn) (ha : a.k.length = 32) : (knl a).set 33 (.bool true) = knl ⟨a.n, a.k, true, a.s⟩ := by
  have := congrArg Array.toList (kn_seto a ha true)
  simpa [knr] using this
/-- The cells of one that is known, in its list's row. -/
theorem OwnN.part {W : World} {b g cap : Nat} {l : List Kn} {cur : Array Value} (h : OwnN W b (.slice (some ⟨g, 0, none⟩) l.length cap) l) (hg : W.heap[g]? = some (.cells cur 32 (0, 0))) {k : Nat} (hk : k < l.length) : ∀ t x, (knl (gk l k))[t]? = some x → cur[k * 35 + t]? = some x := by
  intro t x hx
  obtain ⟨g2, e, _, hr⟩ := h.at hk
  cases e
  have := hr t x hx
  rwa [cell_of_row _ _ _ _ _ _ hg] at this
end Go.Proofs.YtlbcdjflcghkeaaDoor
