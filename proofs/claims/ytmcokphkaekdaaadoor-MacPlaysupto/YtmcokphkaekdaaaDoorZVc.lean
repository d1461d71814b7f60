import Derived.Test.YtmcokphkaekdaaaDoorProg
import Derived.WalkKit
import Derived.WalkSpells
import Derived.WalkLawsBesides
import Derived.Lib.QuietBelow
import Derived.BigQuiet
import Derived.Test.YtmcokphkaekdaaaDoorS0
import Derived.Test.YtmcokphkaekdaaaDoorS5
import Derived.Deep.RegionLaw
import Derived.Deep.RegionHeld3
import Derived.OwnWalk
import Derived.Lib.SlBytesConst
namespace Go.Proofs.YtmcokphkaekdaaaDoor
open Go Go.RowKit Go.Sort
attribute [local go_sem] setCell_drewN alloc_drewN

/-- A call as one step of a region that draws, guarded or not. -/
theorem step_callw {P : Program} {ops : Array Oper} {o : Oper} {a : Act} {w : World} {K : Act → World → Prop} {Q : Exit → Act → World → Prop} {E : Prop} (f : FuncId) (args : Array Value) {R : Value → World → Prop}
    (hw : Region.wanted o (yielded ops a.tmps) = true) (hx : (execOp a.eval o).run P w = .ok (.enter f args) w) (c : Calls P f args w fun e w' => ∃ v, e = .returned v ∧ R v w') (h : ∀ v w', R v w' → K (a.put o.dst v) w') :
    if Region.wanted o (yielded ops a.tmps) = true then Oper.wp P o a w K Q else E := by
  rw [if_pos hw]
  unfold Oper.wp
  rw [hx, Oper.upon_enter]
  exact c.mono fun e w' ⟨v, he, hb⟩ => by subst he; exact h v w' hb
theorem Bys.of_rowF {W : World} {g n : Nat} {l : List Int} {t : TypeId} {fr : Nat × Nat} (hg : W.heap[g]? = some (.cells (irow .u8 l) t fr)) (hl : l.length ≤ 9223372036854775807) (hz : ∀ z ∈ l, 0 ≤ z ∧ z < 256) (hn : l.length = n) {cap : Nat} : Bys W (.slice (some ⟨g, 0, none⟩) n cap) l := by
  subst hn
  refine ⟨_, cap, rfl, hl, fun j hj => ⟨g, 0, rfl, lt_of_row hg, ?_⟩, hz⟩
  rw [Nat.zero_add, cell_of_row _ _ _ _ _ _ hg, irow_get _ _ _ hj]
theorem hexT (s : ByteArray) (n : Nat) (O : List Int) (hs : s.size = 2 * n) (hn : n ≤ 1000) (hh : ∀ j, j < 2 * n → isHx (sb s j)) (e : hxl s n = O) (w : World) : Calls Tryd.prog 30 #[.string s] w fun e w' => ∃ v, e = .returned v ∧ w'.ownsRow w.heap.size 5 1 v n (O.map (Value.int .u8)) ∧ Below w.heap.size w w' := by
  rw [← e]; exact l_hex s n hs hn hh w
theorem hexS0 (O : List Int) (hO : O = [247, 188, 131, 244, 48, 83, 132, 36, 177, 50, 152, 230, 170, 111, 177, 67, 239, 77, 89, 161, 73, 70, 23, 89, 151, 71, 157, 188, 45, 26, 60, 216]) (w : World) : Calls Tryd.prog 30 #[.string (⟨#[102, 55, 98, 99, 56, 51, 102, 52, 51, 48, 53, 51, 56, 52, 50, 52, 98, 49, 51, 50, 57, 56, 101, 54, 97, 97, 54, 102, 98, 49, 52, 51, 101, 102, 52, 100, 53, 57, 97, 49, 52, 57, 52, 54, 49, 55, 53, 57, 57, 55, 52, 55, 57, 100, 98, 99, 50, 100, 49, 97, 51, 99, 100, 56]⟩ : ByteArray)] w fun e w' => ∃ v, e = .returned v ∧ w'.ownsRow w.heap.size 5 1 v 32 (O.map (Value.int .u8)) ∧ Below w.heap.size w w' :=
  hexT (⟨#[102, 55, 98, 99, 56, 51, 102, 52, 51, 48, 53, 51, 56, 52, 50, 52, 98, 49, 51, 50, 57, 56, 101, 54, 97, 97, 54, 102, 98, 49, 52, 51, 101, 102, 52, 100, 53, 57, 97, 49, 52, 57, 52, 54, 49, 55, 53, 57, 57, 55, 52, 55, 57, 100, 98, 99, 50, 100, 49, 97, 51, 99, 100, 56]⟩ : ByteArray) 32 O (by decide +kernel) (by decide) (by decide +kernel) (by rw [hO]; decide +kernel) w
theorem hexS1 (O : List Int) (hO : O = [182, 19, 103, 154, 8, 20, 217, 236, 119, 47, 149, 215, 120, 195, 95, 197, 255, 22, 151, 196, 147, 113, 86, 83, 198, 199, 18, 20, 66, 146, 197, 173]) (w : World) : Calls Tryd.prog 30 #[.string (⟨#[98, 54, 49, 51, 54, 55, 57, 97, 48, 56, 49, 52, 100, 57, 101, 99, 55, 55, 50, 102, 57, 53, 100, 55, 55, 56, 99, 51, 53, 102, 99, 53, 102, 102, 49, 54, 57, 55, 99, 52, 57, 51, 55, 49, 53, 54, 53, 51, 99, 54, 99, 55, 49, 50, 49, 52, 52, 50, 57, 50, 99, 53, 97, 100]⟩ : ByteArray)] w fun e w' => ∃ v, e = .returned v ∧ w'.ownsRow w.heap.size 5 1 v 32 (O.map (Value.int .u8)) ∧ Below w.heap.size w w' :=
  hexT (⟨#[98, 54, 49, 51, 54, 55, 57, 97, 48, 56, 49, 52, 100, 57, 101, 99, 55, 55, 50, 102, 57, 53, 100, 55, 55, 56, 99, 51, 53, 102, 99, 53, 102, 102, 49, 54, 57, 55, 99, 52, 57, 51, 55, 49, 53, 54, 53, 51, 99, 54, 99, 55, 49, 50, 49, 52, 52, 50, 57, 50, 99, 53, 97, 100]⟩ : ByteArray) 32 O (by decide +kernel) (by decide) (by decide +kernel) (by rw [hO]; decide +kernel) w
theorem hexS2 (O : List Int) (hO : O = [11, 11, 11, 11, 11, 11, 11, 11, 11, 11, 11, 11, 11, 11, 11, 11, 11, 11, 11, 11, 11, 11]) (w : World) : Calls Tryd.prog 30 #[.string (⟨#[48, 98, 48, 98, 48, 98, 48, 98, 48, 98, 48, 98, 48, 98, 48, 98, 48, 98, 48, 98, 48, 98, 48, 98, 48, 98, 48, 98, 48, 98, 48, 98, 48, 98, 48, 98, 48, 98, 48, 98, 48, 98, 48, 98]⟩ : ByteArray)] w fun e w' => ∃ v, e = .returned v ∧ w'.ownsRow w.heap.size 5 1 v 22 (O.map (Value.int .u8)) ∧ Below w.heap.size w w' :=
  hexT (⟨#[48, 98, 48, 98, 48, 98, 48, 98, 48, 98, 48, 98, 48, 98, 48, 98, 48, 98, 48, 98, 48, 98, 48, 98, 48, 98, 48, 98, 48, 98, 48, 98, 48, 98, 48, 98, 48, 98, 48, 98, 48, 98, 48, 98]⟩ : ByteArray) 22 O (by decide +kernel) (by decide) (by decide +kernel) (by rw [hO]; decide +kernel) w
theorem hexS3 (O : List Int) (hO : O = [0, 1, 2, 3, 4, 5, 6, 7, 8, 9, 10, 11, 12]) (w : World) : Calls Tryd.prog 30 #[.string (⟨#[48, 48, 48, 49, 48, 50, 48, 51, 48, 52, 48, 53, 48, 54, 48, 55, 48, 56, 48, 57, 48, 97, 48, 98, 48, 99]⟩ : ByteArray)] w fun e w' => ∃ v, e = .returned v ∧ w'.ownsRow w.heap.size 5 1 v 13 (O.map (Value.int .u8)) ∧ Below w.heap.size w w' :=
  hexT (⟨#[48, 48, 48, 49, 48, 50, 48, 51, 48, 52, 48, 53, 48, 54, 48, 55, 48, 56, 48, 57, 48, 97, 48, 98, 48, 99]⟩ : ByteArray) 13 O (by decide +kernel) (by decide) (by decide +kernel) (by rw [hO]; decide +kernel) w
theorem hexS4 (O : List Int) (hO : O = [240, 241, 242, 243, 244, 245, 246, 247, 248, 249]) (w : World) : Calls Tryd.prog 30 #[.string (⟨#[102, 48, 102, 49, 102, 50, 102, 51, 102, 52, 102, 53, 102, 54, 102, 55, 102, 56, 102, 57]⟩ : ByteArray)] w fun e w' => ∃ v, e = .returned v ∧ w'.ownsRow w.heap.size 5 1 v 10 (O.map (Value.int .u8)) ∧ Below w.heap.size w w' :=
  hexT (⟨#[102, 48, 102, 49, 102, 50, 102, 51, 102, 52, 102, 53, 102, 54, 102, 55, 102, 56, 102, 57]⟩ : ByteArray) 10 O (by decide +kernel) (by decide) (by decide +kernel) (by rw [hO]; decide +kernel) w
theorem hexS5 (O : List Int) (hO : O = [7, 119, 9, 54, 44, 46, 50, 223, 13, 220, 63, 13, 196, 123, 186, 99, 144, 182, 199, 59, 181, 15, 156, 49, 34, 236, 132, 74, 215, 194, 179, 229]) (w : World) : Calls Tryd.prog 30 #[.string (⟨#[48, 55, 55, 55, 48, 57, 51, 54, 50, 99, 50, 101, 51, 50, 100, 102, 48, 100, 100, 99, 51, 102, 48, 100, 99, 52, 55, 98, 98, 97, 54, 51, 57, 48, 98, 54, 99, 55, 51, 98, 98, 53, 48, 102, 57, 99, 51, 49, 50, 50, 101, 99, 56, 52, 52, 97, 100, 55, 99, 50, 98, 51, 101, 53]⟩ : ByteArray)] w fun e w' => ∃ v, e = .returned v ∧ w'.ownsRow w.heap.size 5 1 v 32 (O.map (Value.int .u8)) ∧ Below w.heap.size w w' :=
  hexT (⟨#[48, 55, 55, 55, 48, 57, 51, 54, 50, 99, 50, 101, 51, 50, 100, 102, 48, 100, 100, 99, 51, 102, 48, 100, 99, 52, 55, 98, 98, 97, 54, 51, 57, 48, 98, 54, 99, 55, 51, 98, 98, 53, 48, 102, 57, 99, 51, 49, 50, 50, 101, 99, 56, 52, 52, 97, 100, 55, 99, 50, 98, 51, 101, 53]⟩ : ByteArray) 32 O (by decide +kernel) (by decide) (by decide +kernel) (by rw [hO]; decide +kernel) w
theorem hexS6 (O : List Int) (hO : O = [60, 178, 95, 37, 250, 172, 213, 122, 144, 67, 79, 100, 208, 54, 47, 42, 45, 45, 10, 144, 207, 26, 90, 76, 93, 176, 45, 86, 236, 196, 197, 191, 52, 0, 114, 8, 213, 184, 135, 24, 88, 101]) (w : World) : Calls Tryd.prog 30 #[.string (⟨([51, 99, 98, 50, 53, 102, 50, 53, 102, 97, 97, 99, 100, 53, 55, 97, 57, 48, 52, 51, 52, 102, 54, 52, 100, 48, 51, 54, 50, 102, 50, 97, 50, 100, 50, 100, 48, 97, 57, 48, 99, 102].append [49, 97, 53, 97, 52, 99, 53, 100, 98, 48, 50, 100, 53, 54, 101, 99, 99, 52, 99, 53, 98, 102, 51, 52, 48, 48, 55, 50, 48, 56, 100, 53, 98, 56, 56, 55, 49, 56, 53, 56, 54, 53]).toArray⟩ : ByteArray)] w fun e w' => ∃ v, e = .returned v ∧ w'.ownsRow w.heap.size 5 1 v 42 (O.map (Value.int .u8)) ∧ Below w.heap.size w w' :=
  hexT (⟨([51, 99, 98, 50, 53, 102, 50, 53, 102, 97, 97, 99, 100, 53, 55, 97, 57, 48, 52, 51, 52, 102, 54, 52, 100, 48, 51, 54, 50, 102, 50, 97, 50, 100, 50, 100, 48, 97, 57, 48, 99, 102].append [49, 97, 53, 97, 52, 99, 53, 100, 98, 48, 50, 100, 53, 54, 101, 99, 99, 52, 99, 53, 98, 102, 51, 52, 48, 48, 55, 50, 48, 56, 100, 53, 98, 56, 56, 55, 49, 56, 53, 56, 54, 53]).toArray⟩ : ByteArray) 42 O (by decide +kernel) (by decide) (by decide +kernel) (by rw [hO]; decide +kernel) w
set_option maxRecDepth 100000 in
set_option maxHeartbeats 4000000 in
theorem vec_any (w : World) (hS : Sta w) (hK : Kon w) : Calls Tryd.prog 8 #[] w fun e w' => e = .returned (.bool true) ∧ Below w.heap.size w w' := by
  obtain ⟨Lk, eLk⟩ : ∃ X : List Int, X = [107, 101, 121] := ⟨_, rfl⟩
  obtain ⟨Lf, eLf⟩ : ∃ X : List Int, X = [84, 104, 101, 32, 113, 117, 105, 99, 107, 32, 98, 114, 111, 119, 110, 32, 102, 111, 120, 32, 106, 117, 109, 112, 115, 32, 111, 118, 101, 114, 32, 116, 104, 101, 32, 108, 97, 122, 121, 32, 100, 111, 103] := ⟨_, rfl⟩
  obtain ⟨E, eE⟩ : ∃ X : List Int, X = [] := ⟨_, rfl⟩
  obtain ⟨O1, eO1⟩ : ∃ X : List Int, X = [247, 188, 131, 244, 48, 83, 132, 36, 177, 50, 152, 230, 170, 111, 177, 67, 239, 77, 89, 161, 73, 70, 23, 89, 151, 71, 157, 188, 45, 26, 60, 216] := ⟨_, rfl⟩
  obtain ⟨O2, eO2⟩ : ∃ X : List Int, X = [182, 19, 103, 154, 8, 20, 217, 236, 119, 47, 149, 215, 120, 195, 95, 197, 255, 22, 151, 196, 147, 113, 86, 83, 198, 199, 18, 20, 66, 146, 197, 173] := ⟨_, rfl⟩
  obtain ⟨Ls, eLs⟩ : ∃ X : List Int, X = [11, 11, 11, 11, 11, 11, 11, 11, 11, 11, 11, 11, 11, 11, 11, 11, 11, 11, 11, 11, 11, 11] := ⟨_, rfl⟩
  obtain ⟨Lt, eLt⟩ : ∃ X : List Int, X = [0, 1, 2, 3, 4, 5, 6, 7, 8, 9, 10, 11, 12] := ⟨_, rfl⟩
  obtain ⟨Li, eLi⟩ : ∃ X : List Int, X = [240, 241, 242, 243, 244, 245, 246, 247, 248, 249] := ⟨_, rfl⟩
  obtain ⟨O6, eO6⟩ : ∃ X : List Int, X = [7, 119, 9, 54, 44, 46, 50, 223, 13, 220, 63, 13, 196, 123, 186, 99, 144, 182, 199, 59, 181, 15, 156, 49, 34, 236, 132, 74, 215, 194, 179, 229] := ⟨_, rfl⟩
  obtain ⟨O7, eO7⟩ : ∃ X : List Int, X = [60, 178, 95, 37, 250, 172, 213, 122, 144, 67, 79, 100, 208, 54, 47, 42, 45, 45, 10, 144, 207, 26, 90, 76, 93, 176, 45, 86, 236, 196, 197, 191, 52, 0, 114, 8, 213, 184, 135, 24, 88, 101] := ⟨_, rfl⟩
  have h1 : hm Lk Lf = O1 := by rw [eLk, eLf, eO1]; exact v_fox
  have h2 : hm E E = O2 := by rw [eE, eO2]; exact v_nil
  have h3 : hm Lt Ls = O6 := by rw [eLt, eLs, eO6]; exact v_ext
  have h4 : xpd O6 Li 42 = O7 := by rw [eO6, eLi, eO7]; exact v_okm
  have l1 : O1.length = 32 := by rw [← h1]; exact hm_len _ _
  have l2 : O2.length = 32 := by rw [← h2]; exact hm_len _ _
  have l6 : O6.length = 32 := by rw [← h3]; exact hm_len _ _
  have l7 : O7.length = 42 := by rw [← h4]; exact xpd_len _ _ _
  have z1 : ∀ z ∈ O1, 0 ≤ z ∧ z < 256 := by rw [← h1]; exact hm_bd _ _
  have z2 : ∀ z ∈ O2, 0 ≤ z ∧ z < 256 := by rw [← h2]; exact hm_bd _ _
  have z6 : ∀ z ∈ O6, 0 ≤ z ∧ z < 256 := by rw [← h3]; exact hm_bd _ _
  have z7 : ∀ z ∈ O7, 0 ≤ z ∧ z < 256 := by rw [← h4]; exact xpd_bd _ _ _
  have lk : Lk.length = 3 := by rw [eLk]; rfl
  have lf : Lf.length = 43 := by rw [eLf]; rfl
  have ls : Ls.length = 22 := by rw [eLs]; rfl
  have lt : Lt.length = 13 := by rw [eLt]; rfl
  have li : Li.length = 10 := by rw [eLi]; rfl
  have zk : ∀ z ∈ Lk, 0 ≤ z ∧ z < 256 := by rw [eLk]; decide
  have zf : ∀ z ∈ Lf, 0 ≤ z ∧ z < 256 := by rw [eLf]; decide
  have zs : ∀ z ∈ Ls, 0 ≤ z ∧ z < 256 := by rw [eLs]; decide
  have zt : ∀ z ∈ Lt, 0 ≤ z ∧ z < 256 := by rw [eLt]; decide
  have zi : ∀ z ∈ Li, 0 ≤ z ∧ z < 256 := by rw [eLi]; decide
  have cO1 := hexS0 O1 eO1
  have cO2 := hexS1 O2 eO2
  have cLs := hexS2 Ls eLs
  have cLt := hexS3 Lt eLt
  have cLi := hexS4 Li eLi
  have cO6 := hexS5 O6 eO6
  have cO7 := hexS6 O7 eO7
  have r1 : ((w.alloc (.cells #[.int .u8 107, .int .u8 101, .int .u8 121] 5 (3, 4))).alloc (.cells #[.int .u8 84, .int .u8 104, .int .u8 101, .int .u8 32, .int .u8 113, .int .u8 117, .int .u8 105, .int .u8 99, .int .u8 107, .int .u8 32, .int .u8 98, .int .u8 114, .int .u8 111, .int .u8 119, .int .u8 110, .int .u8 32, .int .u8 102, .int .u8 111, .int .u8 120, .int .u8 32, .int .u8 106, .int .u8 117, .int .u8 109, .int .u8 112, .int .u8 115, .int .u8 32, .int .u8 111, .int .u8 118, .int .u8 101, .int .u8 114, .int .u8 32, .int .u8 116, .int .u8 104, .int .u8 101, .int .u8 32, .int .u8 108, .int .u8 97, .int .u8 122, .int .u8 121, .int .u8 32, .int .u8 100, .int .u8 111, .int .u8 103] 5 (43, 44))).heap[w.heap.size]? = some (.cells (irow .u8 Lk) 5 (3, 4)) := by rw [eLk]; exact hp2_0 w _ _
  have r2 : ((w.alloc (.cells #[.int .u8 107, .int .u8 101, .int .u8 121] 5 (3, 4))).alloc (.cells #[.int .u8 84, .int .u8 104, .int .u8 101, .int .u8 32, .int .u8 113, .int .u8 117, .int .u8 105, .int .u8 99, .int .u8 107, .int .u8 32, .int .u8 98, .int .u8 114, .int .u8 111, .int .u8 119, .int .u8 110, .int .u8 32, .int .u8 102, .int .u8 111, .int .u8 120, .int .u8 32, .int .u8 106, .int .u8 117, .int .u8 109, .int .u8 112, .int .u8 115, .int .u8 32, .int .u8 111, .int .u8 118, .int .u8 101, .int .u8 114, .int .u8 32, .int .u8 116, .int .u8 104, .int .u8 101, .int .u8 32, .int .u8 108, .int .u8 97, .int .u8 122, .int .u8 121, .int .u8 32, .int .u8 100, .int .u8 111, .int .u8 103] 5 (43, 44))).heap[w.heap.size + 1]? = some (.cells (irow .u8 Lf) 5 (43, 44)) := by rw [eLf]; exact hp2_1 w _ _
  have hw : Below w.heap.size w ((w.alloc (.cells #[.int .u8 107, .int .u8 101, .int .u8 121] 5 (3, 4))).alloc (.cells #[.int .u8 84, .int .u8 104, .int .u8 101, .int .u8 32, .int .u8 113, .int .u8 117, .int .u8 105, .int .u8 99, .int .u8 107, .int .u8 32, .int .u8 98, .int .u8 114, .int .u8 111, .int .u8 119, .int .u8 110, .int .u8 32, .int .u8 102, .int .u8 111, .int .u8 120, .int .u8 32, .int .u8 106, .int .u8 117, .int .u8 109, .int .u8 112, .int .u8 115, .int .u8 32, .int .u8 111, .int .u8 118, .int .u8 101, .int .u8 114, .int .u8 32, .int .u8 116, .int .u8 104, .int .u8 101, .int .u8 32, .int .u8 108, .int .u8 97, .int .u8 122, .int .u8 121, .int .u8 32, .int .u8 100, .int .u8 111, .int .u8 103] 5 (43, 44))) := bel2 w _ _
  have hcv1 : (convert 22 22 (.slice (some ⟨w.heap.size, 0, none⟩) 3 3)).run Tryd.prog (w.alloc (.cells #[.int .u8 107, .int .u8 101, .int .u8 121] 5)) = .ok (.slice (some ⟨w.heap.size, 0, none⟩) 3 3) (w.alloc (.cells #[.int .u8 107, .int .u8 101, .int .u8 121] 5 (3, 4))) := Go.Lib.run_convert_bytes_const w 22 5 #[.int .u8 107, .int .u8 101, .int .u8 121] 3 3 Tryd.underlying22 Tryd.underlying5
  have hcv2 : (convert 22 22 (.slice (some ⟨w.heap.size + 1, 0, none⟩) 43 43)).run Tryd.prog ((w.alloc (.cells #[.int .u8 107, .int .u8 101, .int .u8 121] 5 (3, 4))).alloc (.cells #[.int .u8 84, .int .u8 104, .int .u8 101, .int .u8 32, .int .u8 113, .int .u8 117, .int .u8 105, .int .u8 99, .int .u8 107, .int .u8 32, .int .u8 98, .int .u8 114, .int .u8 111, .int .u8 119, .int .u8 110, .int .u8 32, .int .u8 102, .int .u8 111, .int .u8 120, .int .u8 32, .int .u8 106, .int .u8 117, .int .u8 109, .int .u8 112, .int .u8 115, .int .u8 32, .int .u8 111, .int .u8 118, .int .u8 101, .int .u8 114, .int .u8 32, .int .u8 116, .int .u8 104, .int .u8 101, .int .u8 32, .int .u8 108, .int .u8 97, .int .u8 122, .int .u8 121, .int .u8 32, .int .u8 100, .int .u8 111, .int .u8 103] 5)) = .ok (.slice (some ⟨w.heap.size + 1, 0, none⟩) 43 43) ((w.alloc (.cells #[.int .u8 107, .int .u8 101, .int .u8 121] 5 (3, 4))).alloc (.cells #[.int .u8 84, .int .u8 104, .int .u8 101, .int .u8 32, .int .u8 113, .int .u8 117, .int .u8 105, .int .u8 99, .int .u8 107, .int .u8 32, .int .u8 98, .int .u8 114, .int .u8 111, .int .u8 119, .int .u8 110, .int .u8 32, .int .u8 102, .int .u8 111, .int .u8 120, .int .u8 32, .int .u8 106, .int .u8 117, .int .u8 109, .int .u8 112, .int .u8 115, .int .u8 32, .int .u8 111, .int .u8 118, .int .u8 101, .int .u8 114, .int .u8 32, .int .u8 116, .int .u8 104, .int .u8 101, .int .u8 32, .int .u8 108, .int .u8 97, .int .u8 122, .int .u8 121, .int .u8 32, .int .u8 100, .int .u8 111, .int .u8 103] 5 (43, 44))) := by
    have h := Go.Lib.run_convert_bytes_const (P := Tryd.prog) (w.alloc (.cells #[.int .u8 107, .int .u8 101, .int .u8 121] 5 (3, 4))) 22 5 #[.int .u8 84, .int .u8 104, .int .u8 101, .int .u8 32, .int .u8 113, .int .u8 117, .int .u8 105, .int .u8 99, .int .u8 107, .int .u8 32, .int .u8 98, .int .u8 114, .int .u8 111, .int .u8 119, .int .u8 110, .int .u8 32, .int .u8 102, .int .u8 111, .int .u8 120, .int .u8 32, .int .u8 106, .int .u8 117, .int .u8 109, .int .u8 112, .int .u8 115, .int .u8 32, .int .u8 111, .int .u8 118, .int .u8 101, .int .u8 114, .int .u8 32, .int .u8 116, .int .u8 104, .int .u8 101, .int .u8 32, .int .u8 108, .int .u8 97, .int .u8 122, .int .u8 121, .int .u8 32, .int .u8 100, .int .u8 111, .int .u8 103] 43 43 Tryd.underlying22 Tryd.underlying5
    rw [size_alloc1] at h
    exact h
  replace eE := hide eE
  clear eLk eLf eO1 eO2 eLs eLt eLi eO6 eO7
  have f0 := hS.below hw
  have f4 := hK.below hw
  go_enter Tryd.func8, Tryd.ntmps8
  go_wp2_with (fail)
  clear hcv1 hcv2
  generalize ((w.alloc (.cells #[.int .u8 107, .int .u8 101, .int .u8 121] 5 (3, 4))).alloc (.cells #[.int .u8 84, .int .u8 104, .int .u8 101, .int .u8 32, .int .u8 113, .int .u8 117, .int .u8 105, .int .u8 99, .int .u8 107, .int .u8 32, .int .u8 98, .int .u8 114, .int .u8 111, .int .u8 119, .int .u8 110, .int .u8 32, .int .u8 102, .int .u8 111, .int .u8 120, .int .u8 32, .int .u8 106, .int .u8 117, .int .u8 109, .int .u8 112, .int .u8 115, .int .u8 32, .int .u8 111, .int .u8 118, .int .u8 101, .int .u8 114, .int .u8 32, .int .u8 116, .int .u8 104, .int .u8 101, .int .u8 32, .int .u8 108, .int .u8 97, .int .u8 122, .int .u8 121, .int .u8 32, .int .u8 100, .int .u8 111, .int .u8 103] 5 (43, 44))) = w0 at *
  have cA := a_macSum Lk Lf w0 (.slice (some ⟨w.heap.size, 0, none⟩) 3 3) (.slice (some ⟨w.heap.size + 1, 0, none⟩) 43 43) f0 f4 (Bys.of_rowF r1 (by omega) zk lk) (fun a l c h => by cases h; exact Nat.le_refl _) (by omega) (Bys.of_rowF r2 (by omega) zf lf) (fun a l c h => by cases h; exact Nat.le_refl _) (by omega)
  rw [h1] at cA
  refine cA.mono ?_
  rintro e_ w1 ⟨rfl, hb⟩
  replace f0 := f0.below hb
  replace f4 := f4.below hb
  replace hw := Below.after hw hb
  clear hb cA r1 r2
  have rA := hp1_0 w1 (.cells (irow .u8 O1) 25)
  have hba : Below w1.heap.size w1 (w1.alloc (.cells (irow .u8 O1) 25)) := (Below.refl _ _).alloc (Nat.le_refl _) _
  replace f0 := f0.below hba
  replace f4 := f4.below hba
  replace hw := Below.after hw hba
  clear hba
  go_wp2_with (first | (refine wpList_alloc rfl 25 rfl (irow .u8 (zr 32)) zkey ?_) | (refine wpList_store_row rfl 25 _ _ rfl (w1.heap.size) (irow .u8 O1) rfl rfl 25 _ (hp1_0 w1 _) (infok8 _ l1) (fit32 _ _ (zr_len 32) l1) (irow_one _ _) ?_; rw [setRow_alloc_new _ _ _ _ _ _ rfl]) | fail)
  generalize w1.alloc (.cells (irow .u8 O1) 25) = w2 at *
  generalize w1.heap.size = grA at *
  have hnE : Bys w2 (.slice none 0 0) E := by rw [eE.out]; exact bys_nil _
  have lE : E.length ≤ 4611686018427380000 := by rw [eE.out]; simp
  have cB := a_macSum E E w2 (.slice none 0 0) (.slice none 0 0) f0 f4 hnE (fun a l c h => by cases h; exact Nat.le_refl _) lE hnE (fun a l c h => by cases h; exact Nat.le_refl _) lE
  rw [h2] at cB
  go_wp2_with (fail)
  refine cB.mono ?_
  rintro e_ w3 ⟨rfl, hb⟩
  replace rA := keep hb rA
  replace f0 := f0.below hb
  replace f4 := f4.below hb
  replace hw := Below.after hw hb
  clear hb cB hnE
  have rB := hp1_0 w3 (.cells (irow .u8 O2) 25)
  have hba : Below w3.heap.size w3 (w3.alloc (.cells (irow .u8 O2) 25)) := (Below.refl _ _).alloc (Nat.le_refl _) _
  replace rA := keep hba rA
  replace f0 := f0.below hba
  replace f4 := f4.below hba
  replace hw := Below.after hw hba
  clear hba
  go_wp2_with (first | (refine wpList_alloc rfl 25 rfl (irow .u8 (zr 32)) zkey ?_) | (refine wpList_store_row rfl 25 _ _ rfl (w3.heap.size) (irow .u8 O2) rfl rfl 25 _ (hp1_0 w3 _) (infok8 _ l2) (fit32 _ _ (zr_len 32) l2) (irow_one _ _) ?_; rw [setRow_alloc_new _ _ _ _ _ _ rfl]) | fail)
  generalize w3.alloc (.cells (irow .u8 O2) 25) = w4 at *
  generalize w3.heap.size = grB at *
  have sk := slice_k
  have qA := fun W (hW : Below w4.heap.size w4 W) => Bys.of_rowN (keep hW rA) (by omega) z1 l1 (cap := 32)
  have qB := fun W (hW : Below w4.heap.size w4 W) => Bys.of_rowN (keep hW rB) (by omega) z2 l2 (cap := 32)
  have hbd : Below w4.heap.size w4 w4.drew := below_drN (Below.refl _ _) 1
  replace qA := hide qA
  replace qB := hide qB
  go_wp2_with (fail)
  refine wp_region_noPanic ?_
  go_region_law
    ((first
      | (refine step_callw 30 _ (by kernel_rfl) (by kernel_rfl) (cO1 w4.drew) ?_
         rintro v5 w5 ⟨own5, hb5⟩
         replace hb5 := Below.after hbd hb5
         have p5 := Bys.of_own own5 (by omega) z1)
      | (refine step_callw 26 _ (by kernel_rfl) (by kernel_rfl) (ex1 (l_same_eq O1 w5 _ _ (qA.out w5 hb5) p5)) ?_
         rintro v6 w6 ⟨rfl, hb6⟩
         replace hb6 := Below.after hb5 hb6)
      | (refine step_callw 30 _ (by kernel_rfl) (by kernel_rfl) (cO2 w6) ?_
         rintro v7 w7 ⟨own7, hb7⟩
         replace hb7 := Below.after hb6 hb7
         have p7 := Bys.of_own own7 (by omega) z2)
      | (refine step_callw 26 _ (by kernel_rfl) (by kernel_rfl) (ex1 (l_same_eq O2 w7 _ _ (qB.out w7 hb7) p7)) ?_
         rintro v8 w8 ⟨rfl, hb8⟩
         replace hb8 := Below.after hb7 hb8)))
  refine NoPanic.normal ?_
  replace f0 := f0.below hb8
  replace f4 := f4.below hb8
  replace hw := Below.after hw hb8
  clear hb5 hb6 hb7 hb8 own5 own7 p5 p7 qA qB rA rB hbd
  go_wp2_with (fail)
  refine (cLs w8).mono ?_
  rintro e_ w9 ⟨vs, rfl, oS, hb⟩
  replace f0 := f0.below hb
  replace f4 := f4.below hb
  replace hw := Below.after hw hb
  clear hb
  go_wp2_with (fail)
  refine (cLt w9).mono ?_
  rintro e_ wa ⟨vt, rfl, oT, hb⟩
  replace oS := own_keep oS hb
  replace f0 := f0.below hb
  replace f4 := f4.below hb
  replace hw := Below.after hw hb
  clear hb
  have cE := a_extract Lt Ls wa vt vs f0 f4 (Bys.of_own oT (by omega) zt) (own_cap oT) (by omega) (Bys.of_own oS (by omega) zs) (own_cap oS) (by omega)
  rw [h3] at cE
  go_wp2_with (fail)
  refine cE.mono ?_
  rintro e_ wb ⟨rfl, hb⟩
  replace oS := own_keep oS hb
  replace oT := own_keep oT hb
  replace f0 := f0.below hb
  replace f4 := f4.below hb
  replace hw := Below.after hw hb
  clear hb cE
  have rE := hp1_0 wb (.cells (irow .u8 O6) 25)
  have hba : Below wb.heap.size wb (wb.alloc (.cells (irow .u8 O6) 25)) := (Below.refl _ _).alloc (Nat.le_refl _) _
  replace oS := own_keep oS hba
  replace oT := own_keep oT hba
  replace f0 := f0.below hba
  replace f4 := f4.below hba
  replace hw := Below.after hw hba
  clear hba
  go_wp2_with (first | (refine wpList_alloc rfl 25 rfl (irow .u8 (zr 32)) zkey ?_) | (refine wpList_store_row rfl 25 _ _ rfl (wb.heap.size) (irow .u8 O6) rfl rfl 25 _ (hp1_0 wb _) (infok8 _ l6) (fit32 _ _ (zr_len 32) l6) (irow_one _ _) ?_; rw [setRow_alloc_new _ _ _ _ _ _ rfl]) | fail)
  generalize wb.alloc (.cells (irow .u8 O6) 25) = wc at *
  generalize wb.heap.size = grE at *
  go_wp2_with (fail)
  refine (cLi wc).mono ?_
  rintro e_ wd ⟨vi, rfl, oI, hb⟩
  replace rE := keep hb rE
  replace oS := own_keep oS hb
  replace oT := own_keep oT hb
  replace f0 := f0.below hb
  replace f4 := f4.below hb
  replace hw := Below.after hw hb
  clear hb
  have cD := ad_yes Lt Ls Li 42 wd vt vs vi f0 f4 (Bys.of_own oT (by omega) zt) (own_cap oT) (by omega) (Bys.of_own oS (by omega) zs) (own_cap oS) (by omega) (Bys.of_own oI (by omega) zi) (own_cap oI) (by omega) (by decide)
  rw [h3, h4] at cD
  go_wp2_with (fail)
  refine cD.mono ?_
  rintro e_ we ⟨v, rfl, gd, rfl, lgd, rD, hb⟩
  replace rE := keep hb rE
  replace f0 := f0.below hb
  replace f4 := f4.below hb
  replace hw := Below.after hw hb
  clear hb cD oS oT oI
  have qE := fun W (hW : Below we.heap.size we W) => Bys.of_rowN (keep hW rE) (by omega) z6 l6 (cap := 32)
  have qD := fun W (hW : Below we.heap.size we W) => Bys.of_rowN (keep hW rD) (by omega) z7 l7 (cap := 42)
  have hbd : Below we.heap.size we we.drew := below_drN (Below.refl _ _) 1
  replace qE := hide qE
  replace qD := hide qD
  go_wp2_with (fail)
  generalize hvS : Value.string (⟨([51, 99, 98, 50, 53, 102, 50, 53, 102, 97, 97, 99, 100, 53, 55, 97, 57, 48, 52, 51, 52, 102, 54, 52, 100, 48, 51, 54, 50, 102, 50, 97, 50, 100, 50, 100, 48, 97, 57, 48, 99, 102].append [49, 97, 53, 97, 52, 99, 53, 100, 98, 48, 50, 100, 53, 54, 101, 99, 99, 52, 99, 53, 98, 102, 51, 52, 48, 48, 55, 50, 48, 56, 100, 53, 98, 56, 56, 55, 49, 56, 53, 56, 54, 53]).toArray⟩ : ByteArray) = vS at *
  replace hvS := hide hvS
  refine wp_region_noPanic ?_
  refine wp_region_any (by kernel_rfl) ?_
  change wpAny _ _ _ _ _ _ _ (World.drew _)
  refine wpAny_take (i := 0) (v := ?v1) rfl (by kernel_rfl) (by kernel_rfl) (by kernel_rfl) (fun _ _ _ h => h) (Or.inl ⟨by rfl, ?y1⟩) ?r1
  case y1 =>
    intro w_
    go_simp
    try with_reducible rfl
  simp only [Act.put, List.getElem_toArray, List.getElem_cons_zero, List.setIfInBounds_toArray, List.set_cons_succ, List.set_cons_zero]
  refine wpAny_ready (rs := [1]) (fuel := 11) (by kernel_rfl) (by simp) (AllReady.cons rfl (fun K' hK => ?_) AllReady.nil)
  rw [if_pos (by kernel_rfl)]
  simp only [List.getElem_toArray, List.getElem_cons_succ, List.getElem_cons_zero]
  refine wp_call_ex (f := 30) (by kernel_rfl) (cO6 we.drew) (fun v5 w5 hX => hK _ _ ?_)
  simp only [Act.put, List.setIfInBounds_toArray, List.set_cons_succ, List.set_cons_zero]
  clear hK
  obtain ⟨own5, hb5⟩ := hX
  replace hb5 := Below.after hbd hb5
  have p5 := Bys.of_own own5 (by omega) z6
  refine wpAny_ready (rs := [2]) (fuel := 10) (by kernel_rfl) (by simp) (AllReady.cons rfl (fun K' hK => ?_) AllReady.nil)
  rw [if_pos (by kernel_rfl)]
  simp only [List.getElem_toArray, List.getElem_cons_succ, List.getElem_cons_zero]
  refine wp_call_ex (f := 26) (by kernel_rfl) (ex1 (l_same_eq O6 w5 _ _ (qE.out w5 hb5) p5)) (fun v6 w6 hX => hK _ _ ?_)
  simp only [Act.put, List.setIfInBounds_toArray, List.set_cons_succ, List.set_cons_zero]
  clear hK
  obtain ⟨rfl, hb6⟩ := hX
  replace hb6 := Below.after hb5 hb6
  refine wpAny_take (i := 3) (v := ?v2) rfl (by kernel_rfl) (by kernel_rfl) (by kernel_rfl) (fun _ _ _ h => h) (Or.inl ⟨by rfl, ?y2⟩) ?r2
  case y2 =>
    intro w_
    go_simp
    try with_reducible rfl
  simp only [Act.put, List.getElem_toArray, List.getElem_cons_succ, List.getElem_cons_zero, List.setIfInBounds_toArray, List.set_cons_succ, List.set_cons_zero]
  refine wpAny_take (i := 4) (v := ?v3) rfl (by kernel_rfl) (by kernel_rfl) (by kernel_rfl) (fun _ _ _ h => h) (Or.inl ⟨by rfl, ?y3⟩) ?r3
  case y3 =>
    intro w_
    go_simp
    try with_reducible rfl
  simp only [Act.put, List.getElem_toArray, List.getElem_cons_succ, List.getElem_cons_zero, List.setIfInBounds_toArray, List.set_cons_succ, List.set_cons_zero]
  refine wpAny_take (i := 5) (v := ?v4) rfl (by kernel_rfl) (by kernel_rfl) (by kernel_rfl) (fun _ _ _ h => h) (Or.inl ⟨by rfl, ?y4⟩) ?r4
  case y4 =>
    intro w_
    go_simp
    try with_reducible rfl
  simp only [Act.put, List.getElem_toArray, List.getElem_cons_succ, List.getElem_cons_zero, List.setIfInBounds_toArray, List.set_cons_succ, List.set_cons_zero]
  refine wpAny_take (i := 6) (v := ?v5) rfl (by kernel_rfl) (by kernel_rfl) (by kernel_rfl) (fun _ _ _ h => h) (Or.inl ⟨by rfl, ?y5⟩) ?r5
  case y5 =>
    intro w_
    go_simp
    try with_reducible rfl
  simp only [Act.put, List.getElem_toArray, List.getElem_cons_succ, List.getElem_cons_zero, List.setIfInBounds_toArray, List.set_cons_succ, List.set_cons_zero]
  refine wpAny_take (i := 7) (v := ?v6) rfl (by kernel_rfl) (by kernel_rfl) (by kernel_rfl) (fun _ _ _ h => h) (Or.inl ⟨by rfl, ?y6⟩) ?r6
  case y6 =>
    intro w_
    go_simp
    try with_reducible rfl
  simp only [Act.put, List.getElem_toArray, List.getElem_cons_succ, List.getElem_cons_zero, List.setIfInBounds_toArray, List.set_cons_succ, List.set_cons_zero]
  refine wpAny_take (i := 8) (v := ?v7) rfl (by kernel_rfl) (by kernel_rfl) (by kernel_rfl) (fun _ _ _ h => h) (Or.inl ⟨by rfl, ?y7⟩) ?r7
  case y7 =>
    intro w_
    go_simp
    try with_reducible rfl
  simp only [Act.put, List.getElem_toArray, List.getElem_cons_succ, List.getElem_cons_zero, List.setIfInBounds_toArray, List.set_cons_succ, List.set_cons_zero]
  refine wpAny_ready (rs := [9]) (fuel := 3) (by kernel_rfl) (by simp) (AllReady.cons rfl (fun K' hK => ?_) AllReady.nil)
  rw [if_pos (by kernel_rfl)]
  simp only [List.getElem_toArray, List.getElem_cons_succ, List.getElem_cons_zero]
  refine wp_call_ex (f := 30) (by kernel_rfl) (cO7 w6) (fun v7 w7 hX => hK _ _ ?_)
  simp only [Act.put, List.setIfInBounds_toArray, List.set_cons_succ, List.set_cons_zero]
  clear hK
  obtain ⟨own7, hb7⟩ := hX
  replace hb7 := Below.after hb6 hb7
  have p7 := Bys.of_own own7 (by omega) z7
  refine wpAny_ready (rs := [10]) (fuel := 2) (by kernel_rfl) (by simp) (AllReady.cons rfl (fun K' hK => ?_) AllReady.nil)
  rw [if_pos (by kernel_rfl)]
  simp only [List.getElem_toArray, List.getElem_cons_succ, List.getElem_cons_zero]
  refine wp_call_ex (f := 26) (by kernel_rfl) (ex1 (l_same_eq O7 w7 _ _ (qD.out w7 hb7) p7)) (fun v8 w8 hX => hK _ _ ?_)
  simp only [Act.put, List.setIfInBounds_toArray, List.set_cons_succ, List.set_cons_zero]
  clear hK
  obtain ⟨rfl, hb8⟩ := hX
  replace hb8 := Below.after hb7 hb8
  refine wpAny_take (i := 11) (v := ?v8) rfl (by kernel_rfl) (by kernel_rfl) (by kernel_rfl) (fun _ _ _ h => h) (Or.inl ⟨by rfl, ?y8⟩) ?r8
  case y8 =>
    intro w_
    go_simp
    try with_reducible rfl
  simp only [Act.put, List.getElem_toArray, List.getElem_cons_succ, List.getElem_cons_zero, List.setIfInBounds_toArray, List.set_cons_succ, List.set_cons_zero]
  refine wpAny_take (i := 12) (v := ?v9) rfl (by kernel_rfl) (by kernel_rfl) (by kernel_rfl) (fun _ _ _ h => h) (Or.inl ⟨by rfl, ?y9⟩) ?r9
  case y9 =>
    intro w_
    go_simp
    try with_reducible rfl
  simp only [Act.put, List.getElem_toArray, List.getElem_cons_succ, List.getElem_cons_zero, List.setIfInBounds_toArray, List.set_cons_zero]
  refine wpAny_done (by kernel_rfl) ?_ _
  refine NoPanic.normal ?_
  replace hw := Below.after hw hb8
  clear hb5 hb6 hb7 hb8 own5 own7 p5 p7 qE qD rE rD hbd
  go_wp2
  go_ret
  exact ⟨rfl, hw⟩

end Go.Proofs.YtmcokphkaekdaaaDoor
