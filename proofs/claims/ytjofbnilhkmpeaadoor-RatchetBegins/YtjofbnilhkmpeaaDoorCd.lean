import Derived.Test.YtjofbnilhkmpeaaDoorProg
import Derived.WalkKit
import Derived.WalkSpells
import Derived.WalkLawsBesides
import Derived.Lib.QuietBelow
import Derived.BigQuiet
import Derived.Test.YtjofbnilhkmpeaaDoorKa
import Derived.Test.YtjofbnilhkmpeaaDoorKim
import Derived.Test.YtjofbnilhkmpeaaDoorCac
import Derived.Test.YtjofbnilhkmpeaaDoorGao
import Derived.Test.YtjofbnilhkmpeaaDoorAbe
import Derived.Test.YtjofbnilhkmpeaaDoorRi
namespace Go.Proofs.YtjofbnilhkmpeaaDoor.Lo
set_option maxRecDepth 100000
open Go.RowKit Go.Sort
attribute [local go_sem] setCell_drewN alloc_drewN


theorem b_add {r s : Array Value} {x y : Int} (h : NumOf r x) (g : NumOf s y) : ∃ t, NumOf t ((x + y) % prm) ∧ Gives 74 #[.agg r, .agg s] (.agg t) :=
  let ⟨t, ht, c⟩ := a_add h g; ⟨t, ht.congr (Int.emod_emod _ _).symm, c⟩
theorem b_sub {r s : Array Value} {x y : Int} (h : NumOf r x) (g : NumOf s y) : ∃ t, NumOf t ((x - y) % prm) ∧ Gives4 75 #[.agg r, .agg s] (.agg t) :=
  let ⟨t, ht, c⟩ := a_sub h g; ⟨t, ht.congr (Int.emod_emod _ _).symm, c⟩
theorem b_mul {r s : Array Value} {x y : Int} (h : NumOf r x) (g : NumOf s y) : ∃ t, NumOf t (x * y % prm) ∧ Gives 67 #[.agg r, .agg s] (.agg t) :=
  let ⟨t, ht, c⟩ := a_mul h g; ⟨t, ht.congr (Int.emod_emod _ _).symm, c⟩
theorem b_square {r : Array Value} {x : Int} (h : NumOf r x) : ∃ t, NumOf t (x * x % prm) ∧ Gives 76 #[.agg r] (.agg t) :=
  let ⟨t, ht, c⟩ := a_square h; ⟨t, ht.congr (Int.emod_emod _ _).symm, c⟩
theorem b_times {r : Array Value} {x : Int} (h : NumOf r x) (m : Int) (l : 0 ≤ m) (u : m < 4294967296) : ∃ t, NumOf t (m * x % prm) ∧ Gives 77 #[.agg r, .int .u32 m] (.agg t) :=
  let ⟨t, ht, c⟩ := a_times h m l u; ⟨t, ht.congr (by rw [Int.mul_comm, Int.emod_emod]), c⟩
theorem nums_size {a b c d : Array Value} (ha : a.size = 5) (hb : b.size = 5) (hc : c.size = 5) (hd : d.size = 5) : (r4 a b c d).size = 20 := by rw [r4_size, ha, hb, hc, hd]
theorem refs_size {a b c d : Array Value} (ha : a.size = 16) (hb : b.size = 16) (hc : c.size = 16) (hd : d.size = 16) : (r4 a b c d).size = 64 := by rw [r4_size, ha, hb, hc, hd]
theorem rung_info : (Tryd.prog.info? 120).map (·.size) = some 20 := by kernel_rfl
theorem rungs_info : (Tryd.prog.info? 92).map (·.size) = some 64 := by kernel_rfl
theorem nums_info {a b c d : Array Value} (ha : a.size = 5) (hb : b.size = 5) (hc : c.size = 5) (hd : d.size = 5) : (Tryd.prog.info? 120).map (·.size) = some (r4 a b c d).size := by rw [nums_size ha hb hc hd]; exact rung_info
theorem refs_info {a b c d : Array Value} (ha : a.size = 16) (hb : b.size = 16) (hc : c.size = 16) (hd : d.size = 16) : (Tryd.prog.info? 92).map (·.size) = some (r4 a b c d).size := by rw [refs_size ha hb hc hd]; exact rungs_info
theorem nums_built {a b c d : Array Value} (ha : a.size = 5) (hb : b.size = 5) (hc : c.size = 5) (hd : d.size = 5) : Tryd.prog.built 120 [(0, .agg a), (1, .agg b), (2, .agg c), (3, .agg d)] = some (r4 a b c d) := by
  obtain ⟨_, _, _, _, _, rfl⟩ := five ha
  obtain ⟨_, _, _, _, _, rfl⟩ := five hb
  obtain ⟨_, _, _, _, _, rfl⟩ := five hc
  obtain ⟨_, _, _, _, _, rfl⟩ := five hd
  kernel_rfl
theorem nums_built3 {a c d : Array Value} (ha : a.size = 5) (hc : c.size = 5) (hd : d.size = 5) : Tryd.prog.built 120 [(0, .agg a), (2, .agg c), (3, .agg d)] = some (r4 a #[.int .u64 0, .int .u64 0, .int .u64 0, .int .u64 0, .int .u64 0] c d) := by
  obtain ⟨_, _, _, _, _, rfl⟩ := five ha
  obtain ⟨_, _, _, _, _, rfl⟩ := five hc
  obtain ⟨_, _, _, _, _, rfl⟩ := five hd
  kernel_rfl
theorem refs_built {a b c d : Array Value} (ha : a.size = 16) (hb : b.size = 16) (hc : c.size = 16) (hd : d.size = 16) : Tryd.prog.built 92 [(0, .agg a), (1, .agg b), (2, .agg c), (3, .agg d)] = some (r4 a b c d) := by
  obtain ⟨_, _, _, _, _, _, _, _, _, _, _, _, _, _, _, _, rfl⟩ := sixteen ha
  obtain ⟨_, _, _, _, _, _, _, _, _, _, _, _, _, _, _, _, rfl⟩ := sixteen hb
  obtain ⟨_, _, _, _, _, _, _, _, _, _, _, _, _, _, _, _, rfl⟩ := sixteen hc
  obtain ⟨_, _, _, _, _, _, _, _, _, _, _, _, _, _, _, _, rfl⟩ := sixteen hd
  kernel_rfl
theorem ovw_0 {a b c d x : Array Value} (ha : a.size = 5) (hb : b.size = 5) (hc : c.size = 5) (hd : d.size = 5) (hx : x.size = 5) : ovw (r4 a b c d) 0 x.toList = r4 x b c d := by
  obtain ⟨_, _, _, _, _, rfl⟩ := five ha
  obtain ⟨_, _, _, _, _, rfl⟩ := five hb
  obtain ⟨_, _, _, _, _, rfl⟩ := five hc
  obtain ⟨_, _, _, _, _, rfl⟩ := five hd
  obtain ⟨_, _, _, _, _, rfl⟩ := five hx
  kernel_rfl
theorem ovw_1 {a b c d x : Array Value} (ha : a.size = 5) (hb : b.size = 5) (hc : c.size = 5) (hd : d.size = 5) (hx : x.size = 5) : ovw (r4 a b c d) 5 x.toList = r4 a x c d := by
  obtain ⟨_, _, _, _, _, rfl⟩ := five ha
  obtain ⟨_, _, _, _, _, rfl⟩ := five hb
  obtain ⟨_, _, _, _, _, rfl⟩ := five hc
  obtain ⟨_, _, _, _, _, rfl⟩ := five hd
  obtain ⟨_, _, _, _, _, rfl⟩ := five hx
  kernel_rfl
theorem ovw_2 {a b c d x : Array Value} (ha : a.size = 5) (hb : b.size = 5) (hc : c.size = 5) (hd : d.size = 5) (hx : x.size = 5) : ovw (r4 a b c d) 10 x.toList = r4 a b x d := by
  obtain ⟨_, _, _, _, _, rfl⟩ := five ha
  obtain ⟨_, _, _, _, _, rfl⟩ := five hb
  obtain ⟨_, _, _, _, _, rfl⟩ := five hc
  obtain ⟨_, _, _, _, _, rfl⟩ := five hd
  obtain ⟨_, _, _, _, _, rfl⟩ := five hx
  kernel_rfl
theorem ovw_3 {a b c d x : Array Value} (ha : a.size = 5) (hb : b.size = 5) (hc : c.size = 5) (hd : d.size = 5) (hx : x.size = 5) : ovw (r4 a b c d) 15 x.toList = r4 a b c x := by
  obtain ⟨_, _, _, _, _, rfl⟩ := five ha
  obtain ⟨_, _, _, _, _, rfl⟩ := five hb
  obtain ⟨_, _, _, _, _, rfl⟩ := five hc
  obtain ⟨_, _, _, _, _, rfl⟩ := five hd
  obtain ⟨_, _, _, _, _, rfl⟩ := five hx
  kernel_rfl
theorem p_0 {a b c d : Array Value} : (r4 a b c d).extract 0 (0 + a.size) = a := r4_get0 rfl
theorem p5_1 {a b c d : Array Value} (ha : a.size = 5) : (r4 a b c d).extract 5 (5 + b.size) = b := r4_get1 ha.symm
theorem p5_2 {a b c d : Array Value} (ha : a.size = 5) (hb : b.size = 5) : (r4 a b c d).extract 10 (10 + c.size) = c := r4_get2 (by omega)
theorem p5_3 {a b c d : Array Value} (ha : a.size = 5) (hb : b.size = 5) (hc : c.size = 5) : (r4 a b c d).extract 15 (15 + d.size) = d := r4_get3 (by omega)
theorem p16_1 {a b c d : Array Value} (ha : a.size = 16) : (r4 a b c d).extract 16 (16 + b.size) = b := r4_get1 ha.symm
theorem p16_2 {a b c d : Array Value} (ha : a.size = 16) (hb : b.size = 16) : (r4 a b c d).extract 32 (32 + c.size) = c := r4_get2 (by omega)
theorem p16_3 {a b c d : Array Value} (ha : a.size = 16) (hb : b.size = 16) (hc : c.size = 16) : (r4 a b c d).extract 48 (48 + d.size) = d := r4_get3 (by omega)

end Go.Proofs.YtjofbnilhkmpeaaDoor.Lo

