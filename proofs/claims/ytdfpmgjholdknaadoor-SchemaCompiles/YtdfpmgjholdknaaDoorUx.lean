import Derived.Test.YtdfpmgjholdknaaDoorProg
import Derived.WalkKit
import Derived.WalkSpells
import Derived.WalkLawsBesides
import Derived.Lib.QuietBelow
import Derived.Laws.BitsAllLaws
import Derived.BigQuiet
import Derived.WalkMore
import Derived.Deep.MidRow
import Derived.Laws.EntriesVeiled
import Derived.Test.YtdfpmgjholdknaaDoorKa
import Derived.Test.YtdfpmgjholdknaaDoorHk
namespace Go.Proofs.YtdfpmgjholdknaaDoor
set_option maxRecDepth 100000
open Go Go.RowKit Go.Sort
attribute [local go_sem] setCell_drewN alloc_drewN
theorem xb3 (w : World) (o0 o1 o2 : Obj) : Below w.heap.size w (((w.alloc o0).alloc o1).alloc o2) := by
  refine .alloc (.alloc (.alloc (Below.refl _ _) ?_ _) ?_ _) ?_ _ <;> simp <;> omega
theorem xp3_0 (w : World) (o0 o1 o2 : Obj) : (((w.alloc o0).alloc o1).alloc o2).heap[w.heap.size]? = some o0 := by
  have e : w.heap.size = w.heap.size := by simp
  have h := (Below.heap_alloc ((w.alloc o0).alloc o1) o2 _ (by simp <;> omega)).trans ((Below.heap_alloc (w.alloc o0) o1 _ (by simp <;> omega)).trans (hp1_0 w o0))
  rw [e] at h
  exact h
theorem xp3_1 (w : World) (o0 o1 o2 : Obj) : (((w.alloc o0).alloc o1).alloc o2).heap[w.heap.size + 1]? = some o1 := by
  have e : (w.alloc o0).heap.size = w.heap.size + 1 := by simp
  have h := (Below.heap_alloc ((w.alloc o0).alloc o1) o2 _ (by simp <;> omega)).trans (hp1_0 (w.alloc o0) o1)
  rw [e] at h
  exact h
theorem xp3_2 (w : World) (o0 o1 o2 : Obj) : (((w.alloc o0).alloc o1).alloc o2).heap[w.heap.size + 1 + 1]? = some o2 := by
  have e : ((w.alloc o0).alloc o1).heap.size = w.heap.size + 1 + 1 := by simp
  have h := hp1_0 ((w.alloc o0).alloc o1) o2
  rw [e] at h
  exact h
theorem xb4 (w : World) (o0 o1 o2 o3 : Obj) : Below w.heap.size w ((((w.alloc o0).alloc o1).alloc o2).alloc o3) := by
  refine .alloc (.alloc (.alloc (.alloc (Below.refl _ _) ?_ _) ?_ _) ?_ _) ?_ _ <;> simp <;> omega
theorem xp4_0 (w : World) (o0 o1 o2 o3 : Obj) : ((((w.alloc o0).alloc o1).alloc o2).alloc o3).heap[w.heap.size]? = some o0 := by
  have e : w.heap.size = w.heap.size := by simp
  have h := (Below.heap_alloc (((w.alloc o0).alloc o1).alloc o2) o3 _ (by simp <;> omega)).trans ((Below.heap_alloc ((w.alloc o0).alloc o1) o2 _ (by simp <;> omega)).trans ((Below.heap_alloc (w.alloc o0) o1 _ (by simp <;> omega)).trans (hp1_0 w o0)))
  rw [e] at h
  exact h
theorem xp4_1 (w : World) (o0 o1 o2 o3 : Obj) : ((((w.alloc o0).alloc o1).alloc o2).alloc o3).heap[w.heap.size + 1]? = some o1 := by
  have e : (w.alloc o0).heap.size = w.heap.size + 1 := by simp
  have h := (Below.heap_alloc (((w.alloc o0).alloc o1).alloc o2) o3 _ (by simp <;> omega)).trans ((Below.heap_alloc ((w.alloc o0).alloc o1) o2 _ (by simp <;> omega)).trans (hp1_0 (w.alloc o0) o1))
  rw [e] at h
  exact h
theorem xp4_2 (w : World) (o0 o1 o2 o3 : Obj) : ((((w.alloc o0).alloc o1).alloc o2).alloc o3).heap[w.heap.size + 1 + 1]? = some o2 := by
  have e : ((w.alloc o0).alloc o1).heap.size = w.heap.size + 1 + 1 := by simp
  have h := (Below.heap_alloc (((w.alloc o0).alloc o1).alloc o2) o3 _ (by simp <;> omega)).trans (hp1_0 ((w.alloc o0).alloc o1) o2)
  rw [e] at h
  exact h
theorem xp4_3 (w : World) (o0 o1 o2 o3 : Obj) : ((((w.alloc o0).alloc o1).alloc o2).alloc o3).heap[w.heap.size + 1 + 1 + 1]? = some o3 := by
  have e : (((w.alloc o0).alloc o1).alloc o2).heap.size = w.heap.size + 1 + 1 + 1 := by simp
  have h := hp1_0 (((w.alloc o0).alloc o1).alloc o2) o3
  rw [e] at h
  exact h
theorem xb5 (w : World) (o0 o1 o2 o3 o4 : Obj) : Below w.heap.size w (((((w.alloc o0).alloc o1).alloc o2).alloc o3).alloc o4) := by
  refine .alloc (.alloc (.alloc (.alloc (.alloc (Below.refl _ _) ?_ _) ?_ _) ?_ _) ?_ _) ?_ _ <;> simp <;> omega
theorem xp5_0 (w : World) (o0 o1 o2 o3 o4 : Obj) : (((((w.alloc o0).alloc o1).alloc o2).alloc o3).alloc o4).heap[w.heap.size]? = some o0 := by
  have e : w.heap.size = w.heap.size := by simp
  have h := (Below.heap_alloc ((((w.alloc o0).alloc o1).alloc o2).alloc o3) o4 _ (by simp <;> omega)).trans ((Below.heap_alloc (((w.alloc o0).alloc o1).alloc o2) o3 _ (by simp <;> omega)).trans ((Below.heap_alloc ((w.alloc o0).alloc o1) o2 _ (by simp <;> omega)).trans ((Below.heap_alloc (w.alloc o0) o1 _ (by simp <;> omega)).trans (hp1_0 w o0))))
  rw [e] at h
  exact h
theorem xp5_1 (w : World) (o0 o1 o2 o3 o4 : Obj) : (((((w.alloc o0).alloc o1).alloc o2).alloc o3).alloc o4).heap[w.heap.size + 1]? = some o1 := by
  have e : (w.alloc o0).heap.size = w.heap.size + 1 := by simp
  have h := (Below.heap_alloc ((((w.alloc o0).alloc o1).alloc o2).alloc o3) o4 _ (by simp <;> omega)).trans ((Below.heap_alloc (((w.alloc o0).alloc o1).alloc o2) o3 _ (by simp <;> omega)).trans ((Below.heap_alloc ((w.alloc o0).alloc o1) o2 _ (by simp <;> omega)).trans (hp1_0 (w.alloc o0) o1)))
  rw [e] at h
  exact h
theorem xp5_2 (w : World) (o0 o1 o2 o3 o4 : Obj) : (((((w.alloc o0).alloc o1).alloc o2).alloc o3).alloc o4).heap[w.heap.size + 1 + 1]? = some o2 := by
  have e : ((w.alloc o0).alloc o1).heap.size = w.heap.size + 1 + 1 := by simp
  have h := (Below.heap_alloc ((((w.alloc o0).alloc o1).alloc o2).alloc o3) o4 _ (by simp <;> omega)).trans ((Below.heap_alloc (((w.alloc o0).alloc o1).alloc o2) o3 _ (by simp <;> omega)).trans (hp1_0 ((w.alloc o0).alloc o1) o2))
  rw [e] at h
  exact h
theorem xp5_3 (w : World) (o0 o1 o2 o3 o4 : Obj) : (((((w.alloc o0).alloc o1).alloc o2).alloc o3).alloc o4).heap[w.heap.size + 1 + 1 + 1]? = some o3 := by
  have e : (((w.alloc o0).alloc o1).alloc o2).heap.size = w.heap.size + 1 + 1 + 1 := by simp
  have h := (Below.heap_alloc ((((w.alloc o0).alloc o1).alloc o2).alloc o3) o4 _ (by simp <;> omega)).trans (hp1_0 (((w.alloc o0).alloc o1).alloc o2) o3)
  rw [e] at h
  exact h
theorem xp5_4 (w : World) (o0 o1 o2 o3 o4 : Obj) : (((((w.alloc o0).alloc o1).alloc o2).alloc o3).alloc o4).heap[w.heap.size + 1 + 1 + 1 + 1]? = some o4 := by
  have e : ((((w.alloc o0).alloc o1).alloc o2).alloc o3).heap.size = w.heap.size + 1 + 1 + 1 + 1 := by simp
  have h := hp1_0 ((((w.alloc o0).alloc o1).alloc o2).alloc o3) o4
  rw [e] at h
  exact h
theorem infoSt : (Tryd.prog.info? 70).map (·.size) = some 5 := by kernel_rfl
def ptr (g : Nat) : Value := .pointer (some ⟨g, 0, none⟩)
set_option maxRecDepth 100000 in
set_option maxHeartbeats 4000000 in
theorem a_plain (no wt : Int) (k : FuncId) (cs : Array Value) (w : World) : Calls Tryd.prog 30 #[.int .i64 no, .int .i64 wt, .func (.func k) #[] cs] w fun e w' => e = .returned (.agg #[.int .i64 no, .int .i64 wt, (.func (.func 43) #[] #[.pointer (some ⟨w.heap.size + 1 + 1 + 1 + 1, 0, none⟩), .pointer (some ⟨w.heap.size, 0, none⟩), .pointer (some ⟨w.heap.size + 1 + 1, 0, none⟩)] : Value), (.func (.func 45) #[] #[.pointer (some ⟨w.heap.size, 0, none⟩), .pointer (some ⟨w.heap.size + 1, 0, none⟩)] : Value), (.func (.func 46) #[] #[.pointer (some ⟨w.heap.size + 1 + 1, 0, none⟩)] : Value)]) ∧ Below w.heap.size w w' ∧ (∃ T, w'.heap[w.heap.size]? = some (.cells #[.int .i64 no] T (0, 0))) ∧ (∃ T, w'.heap[w.heap.size + 1]? = some (.cells #[.int .i64 wt] T (0, 0))) ∧ (∃ T, w'.heap[w.heap.size + 1 + 1]? = some (.cells #[.func (.func k) #[] cs] T (0, 0))) ∧ (∃ T, w'.heap[w.heap.size + 1 + 1 + 1 + 1]? = some (.cells #[.bool (wt == 2)] T (0, 0))) := by
  go_enter Tryd.func30, Tryd.ntmps30
  go_wp2
  exact bodyPost_ret (v := .agg #[.int .i64 no, .int .i64 wt, (.func (.func 43) #[] #[.pointer (some ⟨w.heap.size + 1 + 1 + 1 + 1, 0, none⟩), .pointer (some ⟨w.heap.size, 0, none⟩), .pointer (some ⟨w.heap.size + 1 + 1, 0, none⟩)] : Value), (.func (.func 45) #[] #[.pointer (some ⟨w.heap.size, 0, none⟩), .pointer (some ⟨w.heap.size + 1, 0, none⟩)] : Value), (.func (.func 46) #[] #[.pointer (some ⟨w.heap.size + 1 + 1, 0, none⟩)] : Value)]) (results_cell_row Tryd.results30 _ _ (w.heap.size + 1 + 1 + 1) _ #[.int .i64 no, .int .i64 wt, (.func (.func 43) #[] #[.pointer (some ⟨w.heap.size + 1 + 1 + 1 + 1, 0, none⟩), .pointer (some ⟨w.heap.size, 0, none⟩), .pointer (some ⟨w.heap.size + 1 + 1, 0, none⟩)] : Value), (.func (.func 45) #[] #[.pointer (some ⟨w.heap.size, 0, none⟩), .pointer (some ⟨w.heap.size + 1, 0, none⟩)] : Value), (.func (.func 46) #[] #[.pointer (some ⟨w.heap.size + 1 + 1, 0, none⟩)] : Value)] _ _ rfl (xp5_3 w _ _ _ _ _) Tryd.underlying70 rfl infoSt) rfl ⟨rfl, xb5 w _ _ _ _ _, ⟨_, xp5_0 w _ _ _ _ _⟩, ⟨_, xp5_1 w _ _ _ _ _⟩, ⟨_, xp5_2 w _ _ _ _ _⟩, ⟨_, xp5_4 w _ _ _ _ _⟩⟩
set_option maxRecDepth 100000 in
set_option maxHeartbeats 4000000 in
theorem a_inner (no : Int) (ao : Option Addr) (n cap : Nat) (w : World) : Calls Tryd.prog 37 #[.int .i64 no, .slice ao n cap] w fun e w' => e = .returned (.agg #[.int .i64 no, .int .i64 2, (.func (.func 53) #[] #[.pointer (some ⟨w.heap.size + 1, 0, none⟩)] : Value), (.func (.func 55) #[] #[.pointer (some ⟨w.heap.size, 0, none⟩), .pointer (some ⟨w.heap.size + 1, 0, none⟩)] : Value), (.func (.func 57) #[] #[.pointer (some ⟨w.heap.size + 1, 0, none⟩)] : Value)]) ∧ Below w.heap.size w w' ∧ (∃ T, w'.heap[w.heap.size]? = some (.cells #[.int .i64 no] T (0, 0))) ∧ (∃ T, w'.heap[w.heap.size + 1]? = some (.cells #[.slice ao n cap] T (0, 0))) := by
  go_enter Tryd.func37, Tryd.ntmps37
  go_wp2
  exact bodyPost_ret (v := .agg #[.int .i64 no, .int .i64 2, (.func (.func 53) #[] #[.pointer (some ⟨w.heap.size + 1, 0, none⟩)] : Value), (.func (.func 55) #[] #[.pointer (some ⟨w.heap.size, 0, none⟩), .pointer (some ⟨w.heap.size + 1, 0, none⟩)] : Value), (.func (.func 57) #[] #[.pointer (some ⟨w.heap.size + 1, 0, none⟩)] : Value)]) (results_cell_row Tryd.results37 _ _ (w.heap.size + 1 + 1) _ #[.int .i64 no, .int .i64 2, (.func (.func 53) #[] #[.pointer (some ⟨w.heap.size + 1, 0, none⟩)] : Value), (.func (.func 55) #[] #[.pointer (some ⟨w.heap.size, 0, none⟩), .pointer (some ⟨w.heap.size + 1, 0, none⟩)] : Value), (.func (.func 57) #[] #[.pointer (some ⟨w.heap.size + 1, 0, none⟩)] : Value)] _ _ rfl (xp3_2 w _ _ _) Tryd.underlying70 rfl infoSt) rfl ⟨rfl, xb3 w _ _ _, ⟨_, xp3_0 w _ _ _⟩, ⟨_, xp3_1 w _ _ _⟩⟩
set_option maxRecDepth 100000 in
set_option maxHeartbeats 4000000 in
theorem a_listed (no l mo : Int) (bo : Option Addr) (bn bc : Nat) (ao : Option Addr) (n cap : Nat) (w : World) : Calls Tryd.prog 38 #[.int .i64 no, .agg #[.int .u64 l, .int .u64 mo, .slice bo bn bc], .slice ao n cap] w fun e w' => e = .returned (.agg #[.int .i64 no, .int .i64 2, (.func (.func 60) #[] #[.pointer (some ⟨w.heap.size, 0, none⟩), .pointer (some ⟨w.heap.size + 1, 0, none⟩), .pointer (some ⟨w.heap.size + 1 + 1, 0, none⟩)] : Value), (.func (.func 62) #[] #[.pointer (some ⟨w.heap.size, 0, none⟩), .pointer (some ⟨w.heap.size + 1 + 1, 0, none⟩)] : Value), (.func (.func 64) #[] #[.pointer (some ⟨w.heap.size + 1, 0, none⟩), .pointer (some ⟨w.heap.size + 1 + 1, 0, none⟩)] : Value)]) ∧ Below w.heap.size w w' ∧ (∃ T, w'.heap[w.heap.size]? = some (.cells #[.int .i64 no] T (0, 0))) ∧ (∃ T, w'.heap[w.heap.size + 1]? = some (.cells #[.int .u64 l, .int .u64 mo, .slice bo bn bc] T (0, 0))) ∧ (∃ T, w'.heap[w.heap.size + 1 + 1]? = some (.cells #[.slice ao n cap] T (0, 0))) := by
  go_enter Tryd.func38, Tryd.ntmps38
  go_wp2
  exact bodyPost_ret (v := .agg #[.int .i64 no, .int .i64 2, (.func (.func 60) #[] #[.pointer (some ⟨w.heap.size, 0, none⟩), .pointer (some ⟨w.heap.size + 1, 0, none⟩), .pointer (some ⟨w.heap.size + 1 + 1, 0, none⟩)] : Value), (.func (.func 62) #[] #[.pointer (some ⟨w.heap.size, 0, none⟩), .pointer (some ⟨w.heap.size + 1 + 1, 0, none⟩)] : Value), (.func (.func 64) #[] #[.pointer (some ⟨w.heap.size + 1, 0, none⟩), .pointer (some ⟨w.heap.size + 1 + 1, 0, none⟩)] : Value)]) (results_cell_row Tryd.results38 _ _ (w.heap.size + 1 + 1 + 1) _ #[.int .i64 no, .int .i64 2, (.func (.func 60) #[] #[.pointer (some ⟨w.heap.size, 0, none⟩), .pointer (some ⟨w.heap.size + 1, 0, none⟩), .pointer (some ⟨w.heap.size + 1 + 1, 0, none⟩)] : Value), (.func (.func 62) #[] #[.pointer (some ⟨w.heap.size, 0, none⟩), .pointer (some ⟨w.heap.size + 1 + 1, 0, none⟩)] : Value), (.func (.func 64) #[] #[.pointer (some ⟨w.heap.size + 1, 0, none⟩), .pointer (some ⟨w.heap.size + 1 + 1, 0, none⟩)] : Value)] _ _ rfl (xp4_3 w _ _ _ _) Tryd.underlying70 rfl infoSt) rfl ⟨rfl, xb4 w _ _ _ _, ⟨_, xp4_0 w _ _ _ _⟩, ⟨_, xp4_1 w _ _ _ _⟩, ⟨_, xp4_2 w _ _ _ _⟩⟩
end Go.Proofs.YtdfpmgjholdknaaDoor
