import Derived.Test.YtlbndkfllegacaaGreatDoorPQc0
import Derived.Test.YtlbndkfllegacaaGreatDoorPQb8
import Derived.OwnWalk
import Derived.Deep.Cut
import Derived.Deep.RegionHeld3
import Derived.Test.YtlbndkfllegacaaGreatDoorProg
import Derived.WalkKit
import Derived.WalkSpells
import Derived.WalkLawsBesides
import Derived.Lib.QuietBelow
import Derived.Laws.BitsAllLaws
import Derived.BigQuiet
import Derived.WalkMore
import Derived.Test.YtlbndkfllegacaaGreatDoorPOpen
import Derived.Test.YtlbndkfllegacaaGreatDoorPQb7
import Derived.Test.YtlbndkfllegacaaGreatDoorPWr
import Derived.Test.YtlbndkfllegacaaGreatDoorPAsf
import Derived.Test.YtlbndkfllegacaaGreatDoorPQd4
import Derived.ChangeSlices
import Derived.SizedLaws
import Derived.Test.YtlbndkfllegacaaGreatDoorPEvu
namespace Go.Proofs.YtlbndkfllegacaaGreatDoor
set_option maxRecDepth 100000
open Go Go.RowKit Go.Sort
attribute [local go_sem] setCell_drewN alloc_drewN
end Go.Proofs.YtlbndkfllegacaaGreatDoor
namespace Go.Proofs.YtlbndkfllegacaaGreatDoor
set_option maxRecDepth 100000
open Go Go.RowKit Go.Sort
attribute [local go_sem] setCell_drewN alloc_drewN
theorem builtZeR : Tryz.prog.built 35 [] = some #[.int .i64 0, .int .i64 0, .int .i64 0] := by kernel_rfl
end Go.Proofs.YtlbndkfllegacaaGreatDoor
namespace Go.Proofs.YtlbndkfllegacaaGreatDoor
set_option maxRecDepth 100000
open Go Go.RowKit Go.Sort
attribute [local go_sem] setCell_drewN alloc_drewN
end Go.Proofs.YtlbndkfllegacaaGreatDoor
namespace Go.Proofs.YtlbndkfllegacaaGreatDoor
set_option maxRecDepth 100000
open Go Go.RowKit Go.Sort
attribute [local go_sem] setCell_drewN alloc_drewN
end Go.Proofs.YtlbndkfllegacaaGreatDoor
namespace Go.Proofs.YtlbndkfllegacaaGreatDoor
set_option maxRecDepth 100000
open Go Go.RowKit Go.Sort
attribute [local go_sem] setCell_drewN alloc_drewN
theorem row_grown {W V : World} {b e s n : Nat} {v : Value} {xs : List Value} {row : Option Nat} (h : W.ownsRow b e s v n xs) (hg : W.grownBy V row) (hne : ∀ k, v.ownBlock = some k → row ≠ some k) : V.ownsRow b e s v n xs := by
 obtain ⟨h1, h2 | ⟨g, cap, cur, rfl, hb2, hr, h3⟩⟩ := h
 · exact ⟨h1, .inl h2⟩
 · exact ⟨h1, .inr ⟨g, cap, cur, rfl, hb2, (hg.block g (lt_of_row hr) (fun e => hne g rfl e.symm)).trans hr, h3⟩⟩
theorem Fts.grown {W V : World} {b : Nat} {v : Value} {us : List Value} {fs : List Fd} {row : Option Nat} (h : Fts W b v us fs) (hg : W.grownBy V row) (h1 : ∀ k, v.ownBlock = some k → row ≠ some k) (h2 : ∀ i, i < us.length → ∀ k, (gv us i).ownBlock = some k → row ≠ some k) : Fts V b v us fs :=
 ⟨row_grown h.1 hg h1, h.2.1, fun i hi => row_grown (h.2.2.1 i hi) hg (h2 i hi), h.2.2.2⟩
end Go.Proofs.YtlbndkfllegacaaGreatDoor
namespace Go.Proofs.YtlbndkfllegacaaGreatDoor
set_option maxRecDepth 100000
open Go Go.RowKit Go.Sort
attribute [local go_sem] setCell_drewN alloc_drewN
end Go.Proofs.YtlbndkfllegacaaGreatDoor
namespace Go.Proofs.YtlbndkfllegacaaGreatDoor
set_option maxRecDepth 100000
open Go Go.RowKit Go.Sort
attribute [local go_sem] setCell_drewN alloc_drewN
end Go.Proofs.YtlbndkfllegacaaGreatDoor
namespace Go.Proofs.YtlbndkfllegacaaGreatDoor
set_option maxRecDepth 100000
open Go Go.RowKit Go.Sort
attribute [local go_sem] setCell_drewN alloc_drewN
end Go.Proofs.YtlbndkfllegacaaGreatDoor
namespace Go.Proofs.YtlbndkfllegacaaGreatDoor
set_option maxRecDepth 100000
open Go Go.RowKit Go.Sort
attribute [local go_sem] setCell_drewN alloc_drewN
def Fy (W : World) (base : Nat) (E : Value) (F : Array Value) : Prop := (E = .nilIface ∧ F = #[.int .i64 0, .int .i64 0, .int .i64 0]) ∨ ∃ g x, base ≤ g ∧ E = .iface 85 (.pointer (some ⟨g, 0, none⟩)) ∧ F = frw x ∧ x.why ≠ 0 ∧ W.heap[g]? = some (.cells (frw x) 35 (0, 0))
theorem Fy.keep {W V : World} {base : Nat} {E : Value} {F : Array Value} (h : Fy W base E F) (hb : Below W.heap.size W V) : Fy V base E F := by
 rcases h with h | ⟨g, x, h0, h1, h2, h3, h4⟩
 · exact .inl h
 · exact .inr ⟨g, x, h0, h1, h2, h3, Go.Proofs.YtlbndkfllegacaaGreatDoor.keep hb h4⟩
theorem Fy.row {W : World} {base : Nat} {E : Value} {F : Array Value} (h : Fy W base E F) {k : Nat} (hk : k < base) (C : Array Value) : Fy (W.setRow k C) base E F := by
 rcases h with h | ⟨g, x, h0, h1, h2, h3, h4⟩
 · exact .inl h
 · exact .inr ⟨g, x, h0, h1, h2, h3, (setRow_other W k g C (by omega)).trans h4⟩
theorem Fy.info {W : World} {base : Nat} {E : Value} {F : Array Value} (h : Fy W base E F) : (Tryz.prog.info? 35).map (·.size) = some F.size := by
 rcases h with ⟨_, rfl⟩ | ⟨g, x, _, _, rfl, _⟩
 · kernel_rfl
 · exact infoFrw x
theorem Fy.size {W : World} {base : Nat} {E : Value} {F : Array Value} (h : Fy W base E F) : F.size = 3 := by
 rcases h with ⟨_, rfl⟩ | ⟨g, x, _, _, rfl, _⟩ <;> rfl
theorem Fy.one {W : World} {base : Nat} {E : Value} {F : Array Value} (h : Fy W base E F) : F.all (·.oneCell') = true := by
 rcases h with ⟨_, rfl⟩ | ⟨g, x, _, _, rfl, _⟩
 · simp [Value.oneCell']
 · exact frw_one x
theorem l_faulty {base : Nat} {E : Value} {F : Array Value} (w : World) (hE : Ety w) (h : Fy w base E F) : Calls Tryz.prog 12 #[E, .agg F] w fun e w' => e = .returned (.bool true) ∧ Below w.heap.size w w' := by
 rcases h with ⟨rfl, rfl⟩ | ⟨g, x, _, rfl, rfl, h3, h4⟩
 · exact l_faulty_nil 0 0 w
 · exact l_faulty_hit x h3 g w hE h4
end Go.Proofs.YtlbndkfllegacaaGreatDoor
namespace Go.Proofs.YtlbndkfllegacaaGreatDoor
set_option maxRecDepth 100000
open Go Go.RowKit Go.Sort
end Go.Proofs.YtlbndkfllegacaaGreatDoor
namespace Go.Proofs.YtlbndkfllegacaaGreatDoor
set_option maxRecDepth 100000
open Go Go.RowKit Go.Sort Go.ChangeShapes Go.WideShapes Go.Deep
attribute [local go_sem] setCell_drewN alloc_drewN
theorem to_bl : ∀ (l : List Int), (∀ z ∈ l, 0 ≤ z ∧ z < 256) → ∃ bs : List B, l = bl bs ∧ bs.length = l.length
 | [], _ => ⟨[], rfl, rfl⟩
 | z :: r, h => by
   obtain ⟨n, hn⟩ := Int.eq_ofNat_of_zero_le (h z (by simp)).1
   have hz := (h z (by simp)).2
   obtain ⟨bs, e1, e2⟩ := to_bl r (fun y hy => h y (by simp [hy]))
   refine ⟨BitVec.ofNat 8 n :: bs, ?_, by simp [e2]⟩
   have e3 : z = bv (BitVec.ofNat 8 n) := by unfold bv; rw [BitVec.toNat_ofNat, hn]; omega
   rw [e1]
   show z :: bl bs = bv _ :: bl bs
   rw [← e3]
theorem cells_bytes6 {H : Type} {enc : TypeId × Value → H} {W : World} {m n : Nat} {t : TypeId} {cs : List Value} {x : DataW H × List MemPlace} (hu : Tryz.prog.underlying t = some (.array n 5)) (hc : Tryz.prog.cellsOf t = n) (h : DataW.trod enc Tryz.prog W 0 (fun _ => true) true m t cs = some x) : ∃ l : List B, l.length = n ∧ cs = (irow .u8 (bl l)).toList := by
 obtain ⟨xs, m, _, _, hlen, hn, hel⟩ := DataW.trod_array hu h
 rw [hc] at hlen
 obtain ⟨l, hl, hw⟩ := ints_of cs .u8 (fun i hi => by
   have hin : i < n := by omega
   have e1 := hel i hin
   rw [cU86, List.getElem?_eq_getElem (show i < xs.length by omega)] at e1
   obtain ⟨a, q0, _, q2⟩ := DataW.trod_int Tryz.underlying5 e1
   simp only [Nat.mul_one] at q0
   rw [List.drop_eq_getElem_cons hi, List.take_succ_cons, List.take_zero] at q0
   injection q0 with q0 _
   exact ⟨a, q0, q2⟩)
 obtain ⟨bs, rfl, e⟩ := to_bl l (fun z hz => u8_of_wf (hw z hz))
 refine ⟨bs, ?_, by rw [hl]; simp [irow]⟩
 have := congrArg List.length hl
 rw [List.length_map, hlen] at this
 omega
theorem cEv10 : Tryz.prog.cellsOf 51 = 19 := by kernel_rfl
theorem cNo10 : Tryz.prog.cellsOf 49 = 16 := by kernel_rfl
theorem cSl10 : Tryz.prog.cellsOf 22 = 1 := by kernel_rfl
theorem cIn10 : Tryz.prog.cellsOf 3 = 1 := by kernel_rfl
theorem ev_of_trod {H : Type} {enc : TypeId × Value → H} {W : World} {m : Nat} {cs : List Value} {x : DataW H × List MemPlace} (hf : DataW.trod enc Tryz.prog W 0 (fun _ => true) true m 51 cs = some x) (hs : ∀ n ∈ x.1.weights Tryz.prog 51, n ≤ reachBytes) : ∃ (ver : Int) (nonce : List B) (u v : Value) (e d : List B), (-9223372036854775808 ≤ ver ∧ ver ≤ 9223372036854775807) ∧ nonce.length = 16 ∧ cs = (evl ver nonce u v).toList ∧ BysC W u e ∧ BysC W v d := by
 obtain ⟨xs, n, _, rfl, hl, hlen, hfld⟩ := DataW.trod_struct Tryz.underlying51 hf
 rw [cEv10] at hl
 match xs, hlen with
 | [y0, y1, y2, y3], _ =>
 have f0 : DataW.trod enc Tryz.prog W 0 (fun _ => true) true n 3 ((cs.drop 0).take (Tryz.prog.cellsOf 3)) = some y0 := hfld 0 _ rfl
 have f1 : DataW.trod enc Tryz.prog W 0 (fun _ => true) true n 49 ((cs.drop 1).take (Tryz.prog.cellsOf 49)) = some y1 := hfld 1 _ rfl
 have f2 : DataW.trod enc Tryz.prog W 0 (fun _ => true) true n 22 ((cs.drop 17).take (Tryz.prog.cellsOf 22)) = some y2 := hfld 2 _ rfl
 have f3 : DataW.trod enc Tryz.prog W 0 (fun _ => true) true n 22 ((cs.drop 18).take (Tryz.prog.cellsOf 22)) = some y3 := hfld 3 _ rfl
 simp only [cIn10, cNo10, cSl10, List.drop_zero] at f0 f1 f2 f3
 obtain ⟨ver, e0, _, wv⟩ := DataW.trod_int Tryz.underlying3 f0
 obtain ⟨nonce, hn, e1⟩ := cells_bytes6 Tryz.underlying49 cNo10 f1
 obtain ⟨u, e, e2, hE⟩ := bysC_of_trod f2 (fun n hn => hs n (by
   simp only [DataW.weights, Tryz.underlying51]
   exact DataW.weights_mem_each (j := 2) rfl rfl n hn))
 obtain ⟨v, d, e3, hB⟩ := bysC_of_trod f3 (fun n hn => hs n (by
   simp only [DataW.weights, Tryz.underlying51]
   exact DataW.weights_mem_each (j := 3) rfl rfl n hn))
 refine ⟨ver, nonce, u, v, e, d, bounds_i64 wv, hn, ?_, hE, hB⟩
 have h1 := (List.take_append_drop 1 cs).symm
 have h2 := (List.take_append_drop 16 (cs.drop 1)).symm
 have h3 := (List.take_append_drop 1 (cs.drop 17)).symm
 have h4 : (cs.drop 18).take 1 = cs.drop 18 := List.take_of_length_le (by rw [List.length_drop]; omega)
 rw [List.drop_drop] at h2 h3
 rw [e0] at h1
 rw [e1] at h2
 rw [e2] at h3
 rw [e3] at h4
 rw [h1, h2]
 show _ ++ (_ ++ List.drop 17 cs) = _
 rw [h3]
 show _ ++ (_ ++ (_ ++ List.drop 18 cs)) = _
 rw [← h4, evl, Array.toList_append, Array.toList_append]
 rfl
end Go.Proofs.YtlbndkfllegacaaGreatDoor
namespace Go.Proofs.YtlbndkfllegacaaGreatDoor
set_option maxRecDepth 100000
open Go Go.RowKit Go.Sort
attribute [local go_sem] setCell_drewN alloc_drewN
theorem len16 (l : List Int) (h : l.length = 16) : ∃ a0 a1 a2 a3 a4 a5 a6 a7 a8 a9 a10 a11 a12 a13 a14 a15, l = [a0, a1, a2, a3, a4, a5, a6, a7, a8, a9, a10, a11, a12, a13, a14, a15] := by
 match l, h with
 | [a0, a1, a2, a3, a4, a5, a6, a7, a8, a9, a10, a11, a12, a13, a14, a15], _ => exact ⟨_, _, _, _, _, _, _, _, _, _, _, _, _, _, _, _, rfl⟩
theorem builtE4l (ver : Int) (l : List Int) (h : l.length = 16) (ha : Option Addr) (hl hc : Nat) (ba : Option Addr) (bn bc : Nat) : Tryz.prog.built 51 [(0, .int .i64 ver), (1, .agg (irow .u8 l)), (2, (.slice ha hl hc)), (3, (.slice ba bn bc))] = some (#[.int .i64 ver] ++ irow .u8 l ++ #[.slice ha hl hc, .slice ba bn bc]) := by
 obtain ⟨a0, a1, a2, a3, a4, a5, a6, a7, a8, a9, a10, a11, a12, a13, a14, a15, rfl⟩ := len16 l h
 kernel_rfl
theorem builtE4 (ver : Int) (nonce : List B) (hn : nonce.length = 16) (ha : Option Addr) (hl hc : Nat) (ba : Option Addr) (bn bc : Nat) : Tryz.prog.built 51 [(0, .int .i64 ver), (1, .agg (irow .u8 (bl nonce))), (2, (.slice ha hl hc)), (3, (.slice ba bn bc))] = some (evl ver nonce (.slice ha hl hc) (.slice ba bn bc)) := builtE4l ver (bl nonce) (by rw [bl_len, hn]) ha hl hc ba bn bc
theorem infoNon (nonce : List B) (hn : nonce.length = 16) : (Tryz.prog.info? 49).map (·.size) = some (irow .u8 (bl nonce)).size := by
 have h : (irow .u8 (bl nonce)).size = 16 := by rw [irow_size, bl_len, hn]
 rw [h]
 exact (by kernel_rfl : (Tryz.prog.info? 49).map (·.size) = some 16)
theorem pkO_why {v hl bn : Nat} {x : Flt3} (h : pkO v hl bn = some x) : x.why ≠ 0 := by
 unfold pkO pk10 at h
 repeat' split at h
 all_goals (first | (injection h with h; subst h; decide) | cases h)
def lPk (v : Nat) (nonce hd bd : List B) : List B := oPk (pkO v hd.length bd.length) (eout (efs v nonce hd bd))
theorem lPk_len (v : Nat) (nonce hd bd : List B) (hn : nonce.length = 16) : (lPk v nonce hd bd).length ≤ 140737488350000 := by
 unfold lPk
 cases hF : pkO v hd.length bd.length with
 | some x => exact Nat.zero_le _
 | none =>
   show (eout (efs v nonce hd bd)).length ≤ _
   have hk : known10 v = true := by
     cases hk : known10 v with
     | true => rfl
     | false => unfold pkO at hF; rw [hk] at hF; cases hF
   have hp : pk10 v hd.length bd.length = none := by unfold pkO at hF; rw [if_pos hk] at hF; exact hF
   rw [(there10 hk hn hp).2.2.2.1]
   have q := (pk_ok hp).2.2.1
   have := mo_le v
   have := en_le4 (n := bd.length) (by omega)
   omega
theorem a_PackEF (ver : Int) (v : Nat) (hv : IntKind.wrap .u64 ver = (v : Int)) (h1 : -9223372036854775808 ≤ ver) (h2 : ver ≤ 9223372036854775807) (nonce : List B) (hn : nonce.length = 16) (hd bd : List B) (b1 : hd.length ≤ 140737488351232) (b2 : bd.length ≤ 140737488351232) (ia : Option Addr) (ic : Nat) (ja : Option Addr) (jc : Nat) (w : World) (hE : Ety w) (hH : BysB w (.slice ia hd.length ic) hd) (hB : BysB w (.slice ja bd.length jc) bd) : Calls Tryz.prog 18 #[.agg (evl ver nonce (.slice ia hd.length ic) (.slice ja bd.length jc))] w fun e w' => ∃ u E, e = .returned (.tuple #[u, E]) ∧ Own w' w.heap.size u (lPk v nonce hd bd) ∧ Fy w' w.heap.size E (fPk (pkO v hd.length bd.length)) ∧ Below w.heap.size w w' := by
 refine (a_PackE ver v hv h1 h2 nonce hn ia hd.length ic ja bd.length jc hd bd w hE hH hB rfl rfl b1 b2).mono ?_
 rintro e w' ⟨h, hb⟩
 unfold lPk
 cases hF : pkO v hd.length bd.length with
 | none =>
   rw [hF] at h
   obtain ⟨u, e1, e2⟩ := h
   exact ⟨u, _, e1, e2, .inl ⟨rfl, rfl⟩, hb⟩
 | some x =>
   rw [hF] at h
   obtain ⟨g, e1, e2, e3⟩ := h
   exact ⟨_, _, e1, own_none10 _ _, .inr ⟨g, x, e2, rfl, rfl, pkO_why hF, e3⟩, hb⟩
theorem r_PackEF (ver : Int) (v : Nat) (hv : IntKind.wrap .u64 ver = (v : Int)) (h1 : -9223372036854775808 ≤ ver) (h2 : ver ≤ 9223372036854775807) (nonce : List B) (hn : nonce.length = 16) (hd bd : List B) (b1 : hd.length ≤ 140737488351232) (b2 : bd.length ≤ 140737488351232) (ia : Option Addr) (ic : Nat) (ja : Option Addr) (jc : Nat) (w : World) (hH : BysB w (.slice ia hd.length ic) hd) (hB : BysB w (.slice ja bd.length jc) bd) : Calls Tryz.prog 19 #[.agg (evl ver nonce (.slice ia hd.length ic) (.slice ja bd.length jc))] w fun e w' => ∃ u, e = .returned (.tuple #[u, .agg (fPk (pkO v hd.length bd.length))]) ∧ Own w' w.heap.size u (lPk v nonce hd bd) ∧ Below w.heap.size w w' := by
 refine (r_PackE ver v hv h1 h2 nonce hn ia hd.length ic ja bd.length jc hd bd w hH hB b1 b2).mono ?_
 rintro e w' ⟨⟨u, e1, e2⟩, hb⟩
 exact ⟨u, e1, e2, hb⟩
set_option maxRecDepth 100000 in
set_option maxHeartbeats 16000000 in
theorem envPacks_any (ver : Int) (v : Nat) (hv : IntKind.wrap .u64 ver = (v : Int)) (h1 : -9223372036854775808 ≤ ver) (h2 : ver ≤ 9223372036854775807) (nonce hd bd : List B) (hn : nonce.length = 16) (ha : Option Addr) (hc : Nat) (ba : Option Addr) (bc : Nat) (w : World) (hE : Ety w) (hH : BysB w (.slice ha hd.length hc) hd) (hB : BysB w (.slice ba bd.length bc) bd) (b1 : hd.length ≤ 140737488351232) (b2 : bd.length ≤ 140737488351232) : Calls Tryz.prog 5 #[.agg (evl ver nonce (.slice ha hd.length hc) (.slice ba bd.length bc))] w fun e w' => e = .returned (.bool true) ∧ Below w.heap.size w w' := by
 have hHl := hH.2.1
 have hBl := hB.2.1
 have pA := hide (fun ia ic ja jc W hE hH hB => a_PackEF ver v hv h1 h2 nonce hn hd bd b1 b2 ia ic ja jc W hE hH hB)
 have rA := hide (fun ia ic ja jc W hH hB => r_PackEF ver v hv h1 h2 nonce hn hd bd b1 b2 ia ic ja jc W hH hB)
 obtain ⟨F, hF⟩ : ∃ F, fPk (pkO v hd.length bd.length) = F := ⟨_, rfl⟩
 obtain ⟨L, hL⟩ : ∃ L, lPk v nonce hd bd = L := ⟨_, rfl⟩
 have hLl := lPk_len v nonce hd bd hn
 rw [hL] at hLl
 replace hLl := hide hLl
 rw [hF, hL] at pA rA
 clear hF hL hv h1 h2
 have R1 := hp1_0 w (.cells (evl ver nonce (.slice ha hd.length hc) (.slice ba bd.length bc)) 51)
 have hw : Below w.heap.size w (w.alloc (.cells (evl ver nonce (.slice ha hd.length hc) (.slice ba bd.length bc)) 51)) := (Below.refl _ _).alloc (Nat.le_refl _) _
 have hE1 := hide (fun V (h : Below w.heap.size w V) => hE.keep h rfl)
 have hHh := hide (fun V (h : Below w.heap.size w V) => hH.keep h)
 have hBh := hide (fun V (h : Below w.heap.size w V) => hB.keep h)
 clear hH hB hE
 have c17 : (w.alloc (.cells (evl ver nonce (.slice ha hd.length hc) (.slice ba bd.length bc)) 51)).cell? ⟨w.heap.size, 17, none⟩ = some (.slice ha hd.length hc) := by rw [cell_of_row _ _ _ _ _ _ R1]; exact evl_h _ _ hn _ _
 go_enter Tryz.func5, Tryz.ntmps5
 go_wp2_with (first | (refine wpList_box rfl 51 _ rfl _ rfl (bEv _) ?_) | fail)
 have cX := sB_hand hd (w.alloc (.cells (evl ver nonce (.slice ha hd.length hc) (.slice ba bd.length bc)) 51)) _ (hHh.out _ hw)
 refine cX.mono ?_
 rintro e_ w1 ⟨rfl, rI, hb⟩
 clear cX c17
 generalize w.alloc (.cells (evl ver nonce (.slice ha hd.length hc) (.slice ba bd.length bc)) 51) = w0 at *
 have l_R1_w1 := lt_of_row R1
 replace R1 := keep hb R1
 replace hw := Below.after hw hb
 have sz_w1 := hb.size
 clear hb
 generalize w0.heap.size = gh at *
 have c18 : w1.cell? ⟨w.heap.size, 18, none⟩ = some (.slice ba bd.length bc) := by rw [cell_of_row _ _ _ _ _ _ R1]; exact evl_b _ _ hn _ _
 go_wp2_with (fail)
 have cX := sB_hand bd w1 _ (hBh.out _ hw)
 refine cX.mono ?_
 rintro e_ w2 ⟨rfl, rJ, hb⟩
 clear cX c18
 have l_R1_w2 := lt_of_row R1
 have l_rI_w2 := lt_of_row rI
 replace R1 := keep hb R1
 replace rI := keep hb rI
 replace hw := Below.after hw hb
 have sz_w2 := hb.size
 clear hb
 generalize w1.heap.size = gd at *
 have lJ := lt_of_row rJ
 have s1 := slice_to (some ⟨gh, 0, none⟩) (hd.length + 80) (hd.length + 80) hd.length (by omega)
 have s2 := slice_to (some ⟨gd, 0, none⟩) (bd.length + 80) (bd.length + 80) bd.length (by omega)
 go_upto_region 3 with (fail)
 have hbd : Below w2.heap.size w2 w2.drew := below_drN (Below.refl _ _) 1
 replace R1 := keep hbd R1
 replace rI := keep hbd rI
 replace rJ := keep hbd rJ
 replace hw := Below.after hw hbd
 clear hbd
 refine wp_region_noPanic ?_
 refine wp_region_held (S := fun W : World => W.heap[w.heap.size]? = some (.cells (evl ver nonce (.slice ha hd.length hc) (.slice ba bd.length bc)) 51 (0, 0))) (by kernel_rfl) ?_
 change wpAnyH _ _ _ _ _ _ _ _ (World.drew _)
 generalize w2.drew = x1 at *
 refine wpAnyH_take (i := 0) (v := ?v1) rfl (by kernel_rfl) (by kernel_rfl) (by kernel_rfl) (fun _ _ _ h => h) (Or.inl ⟨by rfl, ?y1⟩) (R1) ?r1
 case y1 =>
   intro w_ hS_
   go_simp
   try with_reducible rfl
 simp only [Act.put, List.getElem_toArray, List.getElem_cons_zero, List.setIfInBounds_toArray, List.set_cons_succ, List.set_cons_zero]
 refine wpAnyH_take (i := 1) (v := .int .i64 ver) rfl (by kernel_rfl) (by kernel_rfl) (by kernel_rfl) (fun _ _ _ h => h) (Or.inl ⟨by rfl, ?y2⟩) (R1) ?r2
 case y2 =>
   intro w_ hS_
   have c_ : w_.cell? ⟨w.heap.size, 0, none⟩ = some (.int .i64 ver) := by rw [cell_of_row _ _ _ _ _ _ hS_]; exact evl_0 _ _ _ _
   go_simp
   try with_reducible rfl
 simp only [Act.put, List.getElem_toArray, List.getElem_cons_succ, List.getElem_cons_zero, List.setIfInBounds_toArray, List.set_cons_succ, List.set_cons_zero]
 refine wpAnyH_take (i := 2) (v := ?v3) rfl (by kernel_rfl) (by kernel_rfl) (by kernel_rfl) (fun _ _ _ h => h) (Or.inl ⟨by rfl, ?y3⟩) (R1) ?r3
 case y3 =>
   intro w_ hS_
   go_simp
   try with_reducible rfl
 simp only [Act.put, List.getElem_toArray, List.getElem_cons_succ, List.getElem_cons_zero, List.setIfInBounds_toArray, List.set_cons_succ, List.set_cons_zero]
 refine wpAnyH_take (i := 3) (v := .agg (irow .u8 (bl nonce))) rfl (by kernel_rfl) (by kernel_rfl) (by kernel_rfl) (fun _ _ _ h => h) (Or.inl ⟨by rfl, ?y4⟩) (R1) ?r4
 case y4 =>
   intro w_ hS_
   simp only [List.getElem_toArray, List.getElem_cons_succ, List.getElem_cons_zero]
   exact run_load_part 49 _ rfl (w.heap.size) 1 rfl 51 (evl ver nonce (.slice ha hd.length hc) (.slice ba bd.length bc)) (0, 0) (irow .u8 (bl nonce)) _ hS_ (evl_n _ _ hn _ _) Tryz.underlying49 rfl (infoNon nonce hn)
 simp only [Act.put, List.getElem_toArray, List.getElem_cons_succ, List.getElem_cons_zero, List.setIfInBounds_toArray, List.set_cons_succ, List.set_cons_zero]
 refine wpAnyH_take (i := 4) (v := ?v5) rfl (by kernel_rfl) (by kernel_rfl) (by kernel_rfl) (fun _ _ _ h => h) (Or.inl ⟨by rfl, ?y5⟩) (R1) ?r5
 case y5 =>
   intro w_ hS_
   go_simp
   try with_reducible rfl
 simp only [Act.put, List.getElem_toArray, List.getElem_cons_succ, List.getElem_cons_zero, List.setIfInBounds_toArray, List.set_cons_succ, List.set_cons_zero]
 refine wpAnyH_take (i := 5) (v := ?v6) rfl (by kernel_rfl) (by kernel_rfl) (by kernel_rfl) (fun _ _ _ h => h) (Or.inl ⟨by rfl, ?y6⟩) (R1) ?r6
 case y6 =>
   intro w_ hS_
   go_simp
   try with_reducible rfl
 simp only [Act.put, List.getElem_toArray, List.getElem_cons_succ, List.getElem_cons_zero, List.setIfInBounds_toArray, List.set_cons_succ, List.set_cons_zero]
 refine wpAnyH_take (i := 6) (v := .slice ha hd.length hc) rfl (by kernel_rfl) (by kernel_rfl) (by kernel_rfl) (fun _ _ _ h => h) (Or.inl ⟨by rfl, ?y7⟩) (R1) ?r7
 case y7 =>
   intro w_ hS_
   have c_ : w_.cell? ⟨w.heap.size, 17, none⟩ = some (.slice ha hd.length hc) := by rw [cell_of_row _ _ _ _ _ _ hS_]; exact evl_h _ _ hn _ _
   go_simp
   try with_reducible rfl
 simp only [Act.put, List.getElem_toArray, List.getElem_cons_succ, List.getElem_cons_zero, List.setIfInBounds_toArray, List.set_cons_succ, List.set_cons_zero]
 refine wpAnyH_take (i := 7) (v := .int .i64 (hd.length : Int)) rfl (by kernel_rfl) (by kernel_rfl) (by kernel_rfl) (fun _ _ _ h => h) (Or.inl ⟨by rfl, ?y8⟩) (R1) ?r8
 case y8 =>
   intro w_ hS_
   go_simp
   try with_reducible rfl
 simp only [Act.put, List.getElem_toArray, List.getElem_cons_succ, List.getElem_cons_zero, List.setIfInBounds_toArray, List.set_cons_succ, List.set_cons_zero]
 refine wpAnyH_take (i := 8) (v := (.slice (some ⟨gh, 0, none⟩) hd.length (hd.length + 80))) rfl (by kernel_rfl) (by kernel_rfl) (by kernel_rfl) (fun _ _ _ h => h) (Or.inl ⟨by rfl, ?y9⟩) (R1) ?r9
 case y9 =>
   intro w_ hS_
   go_simp
   try with_reducible rfl
 simp only [Act.put, List.getElem_toArray, List.getElem_cons_succ, List.getElem_cons_zero, List.setIfInBounds_toArray, List.set_cons_succ, List.set_cons_zero]
 refine wpAnyH_take (i := 9) (v := ?v10) rfl (by kernel_rfl) (by kernel_rfl) (by kernel_rfl) (fun _ _ _ h => h) (Or.inl ⟨by rfl, ?y10⟩) (R1) ?r10
 case y10 =>
   intro w_ hS_
   go_simp
   try with_reducible rfl
 simp only [Act.put, List.getElem_toArray, List.getElem_cons_succ, List.getElem_cons_zero, List.setIfInBounds_toArray, List.set_cons_succ, List.set_cons_zero]
 refine wpAnyH_take (i := 10) (v := ?v11) rfl (by kernel_rfl) (by kernel_rfl) (by kernel_rfl) (fun _ _ _ h => h) (Or.inl ⟨by rfl, ?y11⟩) (R1) ?r11
 case y11 =>
   intro w_ hS_
   go_simp
   try with_reducible rfl
 simp only [Act.put, List.getElem_toArray, List.getElem_cons_succ, List.getElem_cons_zero, List.setIfInBounds_toArray, List.set_cons_succ, List.set_cons_zero]
 refine wpAnyH_take (i := 11) (v := .slice ba bd.length bc) rfl (by kernel_rfl) (by kernel_rfl) (by kernel_rfl) (fun _ _ _ h => h) (Or.inl ⟨by rfl, ?y12⟩) (R1) ?r12
 case y12 =>
   intro w_ hS_
   have c_ : w_.cell? ⟨w.heap.size, 18, none⟩ = some (.slice ba bd.length bc) := by rw [cell_of_row _ _ _ _ _ _ hS_]; exact evl_b _ _ hn _ _
   go_simp
   try with_reducible rfl
 simp only [Act.put, List.getElem_toArray, List.getElem_cons_succ, List.getElem_cons_zero, List.setIfInBounds_toArray, List.set_cons_succ, List.set_cons_zero]
 refine wpAnyH_take (i := 12) (v := .int .i64 (bd.length : Int)) rfl (by kernel_rfl) (by kernel_rfl) (by kernel_rfl) (fun _ _ _ h => h) (Or.inl ⟨by rfl, ?y13⟩) (R1) ?r13
 case y13 =>
   intro w_ hS_
   go_simp
   try with_reducible rfl
 simp only [Act.put, List.getElem_toArray, List.getElem_cons_succ, List.getElem_cons_zero, List.setIfInBounds_toArray, List.set_cons_succ, List.set_cons_zero]
 refine wpAnyH_take (i := 13) (v := (.slice (some ⟨gd, 0, none⟩) bd.length (bd.length + 80))) rfl (by kernel_rfl) (by kernel_rfl) (by kernel_rfl) (fun _ _ _ h => h) (Or.inl ⟨by rfl, ?y14⟩) (R1) ?r14
 case y14 =>
   intro w_ hS_
   go_simp
   try with_reducible rfl
 simp only [Act.put, List.getElem_toArray, List.getElem_cons_succ, List.getElem_cons_zero, List.setIfInBounds_toArray, List.set_cons_succ, List.set_cons_zero]
 refine wpAnyH_take (i := 14) (v := .agg (evl ver nonce (.slice (some ⟨gh, 0, none⟩) hd.length (hd.length + 80)) (.slice (some ⟨gd, 0, none⟩) bd.length (bd.length + 80)))) rfl (by kernel_rfl) (by kernel_rfl) (by kernel_rfl) (fun _ _ _ h => h) (Or.inl ⟨by rfl, ?y15⟩) (R1) ?r15
 case y15 =>
   intro w_ hS_
   simp only [List.getElem_toArray, List.getElem_cons_succ, List.getElem_cons_zero]
   exact run_build_op 51 _ rfl [(0, .int .i64 ver), (1, .agg (irow .u8 (bl nonce))), (2, (.slice (some ⟨gh, 0, none⟩) hd.length (hd.length + 80))), (3, (.slice (some ⟨gd, 0, none⟩) bd.length (bd.length + 80)))] rfl _ (builtE4 ver nonce hn _ _ _ _ _ _)
 simp only [Act.put, List.getElem_toArray, List.getElem_cons_succ, List.getElem_cons_zero, List.setIfInBounds_toArray, List.set_cons_succ, List.set_cons_zero]
 refine wpAnyH_one (k := 15) (fuel := 1) (by kernel_rfl) rfl (by kernel_rfl) (fun K_ hK_ => ?_)
 refine wp_world_op (.pointer (some ⟨x1.heap.size, 0, none⟩)) (x1.alloc (.cells (evl 0 n16 (.slice none 0 0) (.slice none 0 0)) 51)) (by kernel_rfl) ?_
 have hb_ : Below x1.heap.size x1 (x1.alloc (.cells (evl 0 n16 (.slice none 0 0) (.slice none 0 0)) 51)) := (Below.refl _ _).alloc (Nat.le_refl _) _
 have sz_g3 : w.heap.size ≤ x1.heap.size := hw.size
 have lt_R1_g3 := lt_of_row R1
 have lt_rI_g3 := lt_of_row rI
 have lt_rJ_g3 := lt_of_row rJ
 have RX := hp1_0 x1 (.cells (evl 0 n16 (.slice none 0 0) (.slice none 0 0)) 51)
 replace R1 := keep hb_ R1
 replace rI := keep hb_ rI
 replace rJ := keep hb_ rJ
 replace hw := Below.after hw hb_
 clear hb_
 refine hK_ _ _ (R1) ?_
 simp only [Act.put, List.getElem_toArray, List.getElem_cons_succ, List.getElem_cons_zero, List.setIfInBounds_toArray, List.set_cons_succ, List.set_cons_zero]
 clear hK_
 generalize x1.alloc (.cells (evl 0 n16 (.slice none 0 0) (.slice none 0 0)) 51) = q2 at *
 generalize x1.heap.size = g3 at *
 refine wpAnyH_one (k := 16) (fuel := 0) (by kernel_rfl) rfl (by kernel_rfl) (fun K_ hK_ => ?_)
 refine wp_store_row 51 _ _ rfl (g3) (evl ver nonce (.slice (some ⟨gh, 0, none⟩) hd.length (hd.length + 80)) (.slice (some ⟨gd, 0, none⟩) bd.length (bd.length + 80))) rfl rfl 51 _ RX (evl_info _ _ hn _ _) (by rw [evl_size _ _ n16_len, evl_size _ _ hn]) (evl_one _ _ _ _ _ _ _ _) ?_
 replace R1 := (setRow_other q2 (g3) (w.heap.size) (evl ver nonce (.slice (some ⟨gh, 0, none⟩) hd.length (hd.length + 80)) (.slice (some ⟨gd, 0, none⟩) bd.length (bd.length + 80))) (by omega)).trans R1
 replace rI := (setRow_other q2 (g3) (gh) (evl ver nonce (.slice (some ⟨gh, 0, none⟩) hd.length (hd.length + 80)) (.slice (some ⟨gd, 0, none⟩) bd.length (bd.length + 80))) (by omega)).trans rI
 replace rJ := (setRow_other q2 (g3) (gd) (evl ver nonce (.slice (some ⟨gh, 0, none⟩) hd.length (hd.length + 80)) (.slice (some ⟨gd, 0, none⟩) bd.length (bd.length + 80))) (by omega)).trans rJ
 replace RX := setRow_heap q2 (g3) _ (evl ver nonce (.slice (some ⟨gh, 0, none⟩) hd.length (hd.length + 80)) (.slice (some ⟨gd, 0, none⟩) bd.length (bd.length + 80))) _ _ RX
 replace hw := below_setRow hw (show w.heap.size ≤ g3 by omega) (evl ver nonce (.slice (some ⟨gh, 0, none⟩) hd.length (hd.length + 80)) (.slice (some ⟨gd, 0, none⟩) bd.length (bd.length + 80)))
 refine hK_ _ _ (R1) ?_
 simp only [Act.put, List.getElem_toArray, List.getElem_cons_succ, List.getElem_cons_zero]
 clear hK_
 generalize q2.setRow g3 (evl ver nonce (.slice (some ⟨gh, 0, none⟩) hd.length (hd.length + 80)) (.slice (some ⟨gd, 0, none⟩) bd.length (bd.length + 80))) = q4 at *
 refine wpAnyH_done (by kernel_rfl) ?_ _
 refine NoPanic.normal ?_
 have lX := lt_of_row RX
 obtain ⟨lo, elo⟩ : ∃ n, n = q4.heap.size := ⟨_, rfl⟩
 have k1 : w.heap.size < lo := by omega
 have k2 : gh < lo := by have := lt_of_row rI; omega
 have k3 : gd < lo := by have := lt_of_row rJ; omega
 have hOs : Owns q4 lo [] q4.heap.size := by rw [elo]; exact Nat.le_refl _
 clear elo lX
 go_wp2_with (first | (refine wpList_load_want rfl 51 _ rfl g3 rfl 51 (evl ver nonce (.slice (some ⟨gh, 0, none⟩) hd.length (hd.length + 80)) (.slice (some ⟨gd, 0, none⟩) bd.length (bd.length + 80))) (0, 0) _ RX Tryz.underlying51 rfl (evl_info _ _ hn _ _) ?_) | fail)
 have cX := pA.out _ _ _ _ q4 (hE1.out _ hw) (head_bysB rI rfl hHl (hd.length + 80)) (head_bysB rJ rfl hBl (bd.length + 80))
 refine cX.mono ?_
 rintro e_ p1 ⟨ua, Ea, rfl, hUa, hFa, hb⟩
 clear cX
 obtain ⟨aa, ca, rfl⟩ := slen_own hUa
 have l_R1_p1 := lt_of_row R1
 have l_rI_p1 := lt_of_row rI
 have l_rJ_p1 := lt_of_row rJ
 have l_RX_p1 := lt_of_row RX
 replace R1 := keep hb R1
 replace rI := keep hb rI
 replace rJ := keep hb rJ
 replace RX := keep hb RX
 replace hOs := hOs.keep hb
 replace hw := Below.after hw hb
 have sz_p1 := hb.size
 clear hb
 replace hOs := hOs.snoc hUa hLl.out sz_p1
 simp only [List.nil_append] at hOs
 go_wp2_with (first | (refine wpList_load_want rfl 51 _ rfl g3 rfl 51 (evl ver nonce (.slice (some ⟨gh, 0, none⟩) hd.length (hd.length + 80)) (.slice (some ⟨gd, 0, none⟩) bd.length (bd.length + 80))) (0, 0) _ RX Tryz.underlying51 rfl (evl_info _ _ hn _ _) ?_) | fail)
 have cX := pA.out _ _ _ _ p1 (hE1.out _ hw) (head_bysB rI rfl hHl (hd.length + 80)) (head_bysB rJ rfl hBl (bd.length + 80))
 refine cX.mono ?_
 rintro e_ p2 ⟨ub, Eb, rfl, hUb, hFb, hb⟩
 clear cX
 obtain ⟨ab, cb, rfl⟩ := slen_own hUb
 have l_R1_p2 := lt_of_row R1
 have l_rI_p2 := lt_of_row rI
 have l_rJ_p2 := lt_of_row rJ
 have l_RX_p2 := lt_of_row RX
 replace R1 := keep hb R1
 replace rI := keep hb rI
 replace rJ := keep hb rJ
 replace RX := keep hb RX
 replace hOs := hOs.keep hb
 replace hUa := hUa.keep hb
 replace hFa := hFa.keep hb
 replace hw := Below.after hw hb
 have sz_p2 := hb.size
 clear hb
 replace hOs := hOs.snoc hUb hLl.out sz_p2
 simp only [List.nil_append, List.cons_append] at hOs
 clear RX
 go_wp2_with (first | (refine wpList_load_want rfl 51 _ rfl w.heap.size rfl 51 (evl ver nonce (.slice ha hd.length hc) (.slice ba bd.length bc)) (0, 0) _ R1 Tryz.underlying51 rfl (evl_info _ _ hn _ _) ?_) | fail)
 have cX := rA.out _ _ _ _ p2 (hHh.out _ hw) (hBh.out _ hw)
 refine cX.mono ?_
 rintro e_ p3 ⟨ut, rfl, hUt, hb⟩
 clear cX
 obtain ⟨at_, ct, rfl⟩ := slen_own hUt
 have l_R1_p3 := lt_of_row R1
 have l_rI_p3 := lt_of_row rI
 have l_rJ_p3 := lt_of_row rJ
 replace R1 := keep hb R1
 replace rI := keep hb rI
 replace rJ := keep hb rJ
 replace hOs := hOs.keep hb
 replace hUa := hUa.keep hb
 replace hFa := hFa.keep hb
 replace hUb := hUb.keep hb
 replace hFb := hFb.keep hb
 replace hw := Below.after hw hb
 have sz_p3 := hb.size
 clear hb
 have z_ := hp1_0 p3 (.cells #[.int .i64 0, .int .i64 0, .int .i64 0] 35)
 have iF := hFa.info
 have zF := hFa.size
 have oF := hFa.one
 have RF := hide (setRow_heap (p3.alloc (.cells #[.int .i64 0, .int .i64 0, .int .i64 0] 35)) p3.heap.size _ F _ _ z_)
 have hb' : Hid (Below p3.heap.size p3 ((p3.alloc (.cells #[.int .i64 0, .int .i64 0, .int .i64 0] 35)).setRow p3.heap.size F)) := hide (below_setRow ((Below.refl _ _).alloc (Nat.le_refl _) _) (Nat.le_refl _) _)
 go_wp2_with (first | (refine wpList_store_row rfl 35 _ _ rfl p3.heap.size F rfl rfl 35 _ z_ iF (by rw [zF]; rfl) oF ?_; refine wpList_stay ?_) | fail)
 unfold WpStay
 try simp only [Act.put, List.setIfInBounds_toArray, List.set_cons_succ, List.set_cons_zero]
 replace RF := RF.out
 have hb := hb'.out
 clear z_ hb'
 have l_R1_p4 := lt_of_row R1
 have l_rI_p4 := lt_of_row rI
 have l_rJ_p4 := lt_of_row rJ
 replace R1 := keep hb R1
 replace rI := keep hb rI
 replace rJ := keep hb rJ
 replace hOs := hOs.keep hb
 replace hUa := hUa.keep hb
 replace hFa := hFa.keep hb
 replace hUb := hUb.keep hb
 replace hFb := hFb.keep hb
 replace hUt := hUt.keep hb
 replace hw := Below.after hw hb
 have sz_p4 := hb.size
 clear hb
 generalize (p3.alloc (.cells #[.int .i64 0, .int .i64 0, .int .i64 0] 35)).setRow p3.heap.size F = p4 at *
 generalize p3.heap.size = g11 at *
 go_wp2_with (fail)
 have cX := sB_same L L p4 _ _ hUa.bys hUt.bys
 rw [show decide (L = L) = true from decide_eq_true rfl] at cX
 refine cX.mono ?_
 rintro e_ p5 ⟨rfl, hb⟩
 clear cX
 have l_R1_p5 := lt_of_row R1
 have l_rI_p5 := lt_of_row rI
 have l_rJ_p5 := lt_of_row rJ
 have l_RF_p5 := lt_of_row RF
 replace R1 := keep hb R1
 replace rI := keep hb rI
 replace rJ := keep hb rJ
 replace RF := keep hb RF
 replace hOs := hOs.keep hb
 replace hUa := hUa.keep hb
 replace hFa := hFa.keep hb
 replace hUb := hUb.keep hb
 replace hFb := hFb.keep hb
 replace hUt := hUt.keep hb
 replace hw := Below.after hw hb
 have sz_p5 := hb.size
 clear hb
 go_wp2_with (fail)
 have cX := sB_same L L p5 _ _ hUb.bys hUt.bys
 rw [show decide (L = L) = true from decide_eq_true rfl] at cX
 refine cX.mono ?_
 rintro e_ p6 ⟨rfl, hb⟩
 clear cX
 have l_R1_p6 := lt_of_row R1
 have l_rI_p6 := lt_of_row rI
 have l_rJ_p6 := lt_of_row rJ
 have l_RF_p6 := lt_of_row RF
 replace R1 := keep hb R1
 replace rI := keep hb rI
 replace rJ := keep hb rJ
 replace RF := keep hb RF
 replace hOs := hOs.keep hb
 replace hUa := hUa.keep hb
 replace hFa := hFa.keep hb
 replace hUb := hUb.keep hb
 replace hFb := hFb.keep hb
 replace hUt := hUt.keep hb
 replace hw := Below.after hw hb
 have sz_p6 := hb.size
 clear hb
 clear hUa hUb hUt
 go_wp2_with (first | (refine wpList_load_want rfl 35 _ rfl g11 rfl 35 F (0, 0) _ RF Tryz.underlying35 rfl iF ?_) | fail)
 have cX := l_faulty p6 (hE1.out _ hw) hFa
 refine cX.mono ?_
 rintro e_ p7 ⟨rfl, hb⟩
 clear cX hFa
 have l_R1_p7 := lt_of_row R1
 have l_rI_p7 := lt_of_row rI
 have l_rJ_p7 := lt_of_row rJ
 have l_RF_p7 := lt_of_row RF
 replace R1 := keep hb R1
 replace rI := keep hb rI
 replace rJ := keep hb rJ
 replace RF := keep hb RF
 replace hOs := hOs.keep hb
 replace hFb := hFb.keep hb
 replace hw := Below.after hw hb
 have sz_p7 := hb.size
 clear hb
 go_wp2_with (first | (refine wpList_load_want rfl 35 _ rfl g11 rfl 35 F (0, 0) _ RF Tryz.underlying35 rfl iF ?_) | fail)
 have cX := l_faulty p7 (hE1.out _ hw) hFb
 refine cX.mono ?_
 rintro e_ p8 ⟨rfl, hb⟩
 clear cX hFb
 have l_R1_p8 := lt_of_row R1
 have l_rI_p8 := lt_of_row rI
 have l_rJ_p8 := lt_of_row rJ
 have l_RF_p8 := lt_of_row RF
 replace R1 := keep hb R1
 replace rI := keep hb rI
 replace rJ := keep hb rJ
 replace RF := keep hb RF
 replace hOs := hOs.keep hb
 replace hw := Below.after hw hb
 have sz_p8 := hb.size
 clear hb
 clear RF iF zF oF
 go_wp2_with (fail)
 have hba : Below p8.heap.size p8 (p8.alloc (.cells #[.slice aa L.length ca, .slice ab L.length cb] 22)) := (Below.refl _ _).alloc (Nat.le_refl _) _
 replace R1 := keep hba R1
 replace rI := keep hba rI
 replace rJ := keep hba rJ
 replace hOs := hOs.keep hba
 replace hw := Below.after hw hba
 clear hba
 have hgl : (p8.alloc (.cells #[.slice aa L.length ca, .slice ab L.length cb] 22)).heap[p8.heap.size]? = some (.cells (([(.slice aa L.length ca, L), (.slice ab L.length cb, L)] : List (Value × List B)).map Prod.fst).toArray 22 (0, 0)) := hp1_0 p8 _
 have cX := s_aparts _ lo _ p8.heap.size (p8.alloc (.cells #[.slice aa L.length ca, .slice ab L.length cb] 22)) hOs (by omega) (by simp) hgl
 refine cX.mono ?_
 rintro e_ p9 ⟨rfl, hb⟩
 clear cX hgl hOs
 replace R1 : p9.heap[w.heap.size]? = _ := (hb.block _ k1).trans R1
 replace rI : p9.heap[gh]? = _ := (hb.block _ k2).trans rI
 replace rJ : p9.heap[gd]? = _ := (hb.block _ k3).trans rJ
 replace hw := hw.trans (hb.mono (by omega))
 clear hb
 have c17 : p9.cell? ⟨w.heap.size, 17, none⟩ = some (.slice ha hd.length hc) := by rw [cell_of_row _ _ _ _ _ _ R1]; exact evl_h _ _ hn _ _
 go_wp2_with (fail)
 have cX := sB_left hd gh p9 _ (hHh.out _ hw) rI
 refine cX.mono ?_
 rintro e_ p10 ⟨rfl, hb⟩
 clear cX c17
 have l_R1_p10 := lt_of_row R1
 have l_rJ_p10 := lt_of_row rJ
 replace R1 := keep hb R1
 replace rJ := keep hb rJ
 replace hw := Below.after hw hb
 have sz_p10 := hb.size
 clear hb
 have c18 : p10.cell? ⟨w.heap.size, 18, none⟩ = some (.slice ba bd.length bc) := by rw [cell_of_row _ _ _ _ _ _ R1]; exact evl_b _ _ hn _ _
 go_wp2_with (fail)
 have cX := sB_left bd gd p10 _ (hBh.out _ hw) rJ
 refine cX.mono ?_
 rintro e_ p11 ⟨rfl, hb⟩
 replace hw := Below.after hw hb
 clear cX c18 hb R1 rJ
 go_wp2_with (fail)
 go_ret
 exact ⟨rfl, hw⟩
theorem envPacks_ev (ver : Int) (nonce : List B) (u v : Value) (e d : List B) (hv : -9223372036854775808 ≤ ver ∧ ver ≤ 9223372036854775807) (hn : nonce.length = 16) (w : World) (hE : Ety w) (hU : BysC w u e) (hV : BysC w v d) : Calls Tryz.prog 5 #[.agg (evl ver nonce u v)] w fun e w' => e = .returned (.bool true) ∧ Below w.heap.size w w' := by
 obtain ⟨ua, uc, rfl⟩ := hU.1.form
 obtain ⟨va, vc, rfl⟩ := hV.1.form
 have hw : ∃ v : Nat, IntKind.wrap .u64 ver = (v : Int) := ⟨(ver % 18446744073709551616).toNat, by show ver % 18446744073709551616 = _; omega⟩
 obtain ⟨n, hw⟩ := hw
 exact envPacks_any ver n hw hv.1 hv.2 nonce e d hn ua uc va vc w hE hU.1 hV.1 hU.2.1 hV.2.1
end Go.Proofs.YtlbndkfllegacaaGreatDoor

