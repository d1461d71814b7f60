import Derived.Test.YtleeadbceljfbaaGreatDoorCExh
import Derived.Test.YtleeadbceljfbaaGreatDoorCJrx
import Derived.Test.YtleeadbceljfbaaGreatDoorCWh
import Derived.ChangeSlices
import Derived.SizedLaws
namespace Go.Proofs.YtleeadbceljfbaaGreatDoor
set_option maxRecDepth 100000
open Go Go.RowKit Go.Sort Go.ChangeShapes Go.WideShapes Go.Deep
theorem to_bl : ∀ (l : List Int), (∀ z ∈ l, 0 ≤ z ∧ z < 256) → ∃ bs : List B, l = bl bs ∧ bs.length = l.length
 | [], _ => ⟨[], rfl, rfl⟩
 | z :: r, h => by
   obtain ⟨n, hn⟩ := Int.eq_ofNat_of_zero_le (h z (by simp)).1
   have hz := (h z (by simp)).2
   obtain ⟨bs, e1, e2⟩ := to_bl r (fun y hy => h y (by simp [hy]))
   refine ⟨BitVec.ofNat 8 n :: bs, ?_, by simp [e2]⟩
   have e3 : z = bv (BitVec.ofNat 8 n) := by unfold bv; rw [BitVec.toNat_ofNat, hn]; omega
   rw [e1]
   show z :: bl bs = bv _ :: bl bs
   rw [← e3]
theorem u32_of_wfH {x : Int} (h : (Lit.int .u32 x).wf = true) : 0 ≤ x ∧ x ≤ 4294967295 := by
 exact bounds_u32 h
theorem cHdA : Tryz.prog.cellsOf 37 = 34 := by kernel_rfl
theorem cU32A : Tryz.prog.cellsOf 35 = 1 := by kernel_rfl
def hdrow (p : List Int) (a b : Int) : Array Value := (k8 p ++ [Value.int .u32 a, Value.int .u32 b]).toArray
theorem hd_of_trod {H : Type} {enc : TypeId × Value → H} {W : World} {m : Nat} {cs : List Value} {x : DataW H × List MemPlace} (hf : DataW.trod enc Tryz.prog W 0 (fun _ => true) true m 37 cs = some x) : ∃ (p : List Int) (a b : Int), K8 p ∧ (0 ≤ a ∧ a ≤ 4294967295) ∧ (0 ≤ b ∧ b ≤ 4294967295) ∧ cs = (hdrow p a b).toList := by
 obtain ⟨xs, n, _, rfl, hl, hlen, hfld⟩ := DataW.trod_struct Tryz.underlying37 hf
 rw [cHdA] at hl
 match xs, hlen with
 | [y0, y1, y2], _ =>
 have f0 : DataW.trod enc Tryz.prog W 0 (fun _ => true) true n 34 ((cs.drop 0).take (Tryz.prog.cellsOf 34)) = some y0 := hfld 0 _ rfl
 rw [cKeyA] at f0
 have f1 : DataW.trod enc Tryz.prog W 0 (fun _ => true) true n 35 ((cs.drop 32).take (Tryz.prog.cellsOf 35)) = some y1 := hfld 1 _ rfl
 rw [cU32A] at f1
 have f2 : DataW.trod enc Tryz.prog W 0 (fun _ => true) true n 35 ((cs.drop 33).take (Tryz.prog.cellsOf 35)) = some y2 := hfld 2 _ rfl
 rw [cU32A] at f2
 obtain ⟨p, k_p, e0⟩ := cells_k8 f0
 obtain ⟨a, e1, _, wa⟩ := DataW.trod_int Tryz.underlying35 f1
 obtain ⟨b, e2, _, wb⟩ := DataW.trod_int Tryz.underlying35 f2
 refine ⟨p, a, b, k_p, u32_of_wfH wa, u32_of_wfH wb, ?_⟩
 have z : cs.drop 34 = [] := List.drop_eq_nil_of_le (by omega)
 have a2 := glue e2 z
 have a1 := glue e1 a2
 have a0 := glue e0 a1
 rw [List.drop_zero] at a0
 rw [a0]
 simp [hdrow]
theorem headed_int (p : List Int) (a b : Int) (hp : K8 p) (ha : 0 ≤ a ∧ a ≤ 4294967295) (hb : 0 ≤ b ∧ b ≤ 4294967295) (w : World) (hE : Ety w) : Calls Tryz.prog 7 #[.agg (hdrow p a b)] w fun e w' => e = .returned (.bool true) ∧ Below w.heap.size w w' := by
 obtain ⟨p', rfl, lp⟩ := to_bl p hp.2
 obtain ⟨n, rfl⟩ := Int.eq_ofNat_of_zero_le ha.1
 obtain ⟨m, rfl⟩ := Int.eq_ofNat_of_zero_le hb.1
 have e : hdrow (bl p') (n : Int) (m : Int) = hrw p' n m := by simp [hdrow, hrw, irow, k8]
 rw [e]
 exact headed_any p' (lp.trans hp.1) n m (by omega) (by omega) w hE
end Go.Proofs.YtleeadbceljfbaaGreatDoor

