import Derived.Test.YtamieopjigjfiabDoorProg
import Derived.WalkKit
import Derived.WalkSpells
import Derived.WalkLawsBesides
import Derived.Lib.QuietBelow
import Derived.BigQuiet
import Derived.OrdersHeld
import Derived.OwnWalk
import Derived.Lib.SlBytesConst
import Derived.Deep.RegionHeld3
import Derived.Test.YtamieopjigjfiabDoorKa
import Derived.Test.YtamieopjigjfiabDoorSq
import Derived.Test.YtamieopjigjfiabDoorSj
import Derived.Test.YtamieopjigjfiabDoorSl
namespace Go.Proofs.YtamieopjigjfiabDoor
set_option maxRecDepth 100000
open Go Go.RowKit Go.Sort
attribute [local go_sem] setCell_drewN alloc_drewN


theorem oth_bys (W : World) : BysB (W.alloc (.cells #[.int .u8 111, .int .u8 116, .int .u8 104, .int .u8 101, .int .u8 114] 5 (5, 6))) (.slice (some ⟨W.heap.size, 0, none⟩) 5 5) [111#8, 116#8, 104#8, 101#8, 114#8] := ⟨bys_rowF (l := bl [111#8, 116#8, 104#8, 101#8, 114#8]) (hp1_0 W _) (by decide) (bl_bnd _) rfl, by decide, fun a l c h h2 => by cases h; cases h2⟩
theorem nil_bysB (W : World) : BysB W (.slice none 0 0) [] := ⟨bys_nil W, by decide, fun a l c h _ => by cases h; rfl⟩
theorem head_bysB {W : World} {g n : Nat} {e : List B} {m : List Int} {t : TypeId} (hg : W.heap[g]? = some (.cells (irow .u8 (bl e ++ m)) t (0, 0))) (hn : e.length = n) (hl : n ≤ 140737488351232) (cap : Nat) : BysB W (.slice (some ⟨g, 0, none⟩) n cap) e := by
  have h := Bys.of_prefix hg (by rw [bl_len]; omega) (bl_bnd e) cap
  rw [bl_len, hn] at h
  exact ⟨h, by omega, fun a l c h h2 => by cases h; cases h2⟩
theorem row_bysB {W : World} {g n : Nat} {e : List B} {t : TypeId} (hg : W.heap[g]? = some (.cells (irow .u8 (bl e)) t (0, 0))) (hn : e.length = n) (hl : n ≤ 140737488351232) (cap : Nat) : BysB W (.slice (some ⟨g, 0, none⟩) n cap) e := head_bysB (m := []) (by rw [List.append_nil]; exact hg) hn hl cap
/-- The bytes turned about. -/
def tbn (e : List B) : List B := lb (tn4 (bl e))
theorem bl_tbn (e : List B) : bl (tbn e) = tn4 (bl e) := bl_lb (tn4_bd _)
theorem tbn_len (e : List B) : (tbn e).length = e.length := by rw [tbn, lb_len, tn4_len, bl_len]
end Go.Proofs.YtamieopjigjfiabDoor
