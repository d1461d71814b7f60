import Derived.Test.YtlbcdjflcghkeaaDoorProg
import Derived.WalkKit
import Derived.WalkSpells
import Derived.WalkLawsBesides
import Derived.Lib.QuietBelow
import Derived.BigQuiet
import Derived.OrdersHeld
import Derived.OwnWalk
import Derived.Deep.RegionHeld3
import Derived.Deep.Cut
import Derived.Deep.CutRange
import Derived.Deep.CutBlock
import Derived.Test.YtlbcdjflcghkeaaDoorTuq
namespace Go.Proofs.YtlbcdjflcghkeaaDoor
set_option maxRecDepth 100000
open Go Go.RowKit Go.Sort
attribute [local go_sem] setCell_drewN alloc_drewN
theorem part_st {cs : Array Value} {s : ByteArray} {o : Nat} (h : cs[o]? = some (.string s)) (W : World) : (part 9 cs o).run Tryd.prog W = .ok (.string s) W := by
  have ha : (isAgg 9).run Tryd.prog W = .ok false W := by
    unfold isAgg
    rw [Sem.run_bind, run_underlying Tryd.underlying9 W]
    rfl
  simp [part, Sem.run_bind, ha, h]
theorem part_in {cs : Array Value} {s : Int} {o : Nat} (h : cs[o]? = some (.int .i64 s)) (W : World) : (part 3 cs o).run Tryd.prog W = .ok (.int .i64 s) W := by
  have ha : (isAgg 3).run Tryd.prog W = .ok false W := by
    unfold isAgg
    rw [Sem.run_bind, run_underlying Tryd.underlying3 W]
    rfl
  simp [part, Sem.run_bind, ha, h]
theorem ba_beq (a b : ByteArray) : (a == b) = decide (a = b) := by
  obtain ⟨x⟩ := a
  obtain ⟨y⟩ := b
  show (x == y) = _
  by_cases h : x = y
  · subst h; simp
  · have h2 : ¬ (ByteArray.mk x = ByteArray.mk y) := fun e => h (by injection e)
    rw [decide_eq_false h2]
    simpa using h
theorem eq_str (d : Nat) (a b : ByteArray) (W : World) : (Op.equalIn (d + 1) 9 (.string a) (.string b)).run Tryd.prog W = .ok (decide (a = b)) W := by
  unfold Op.equalIn
  rw [Sem.run_bind, run_underlying Tryd.underlying9 W]
  show Result.ok (a == b) W = _
  rw [ba_beq]
theorem eq_int (d : Nat) (a b : Int) (W : World) : (Op.equalIn (d + 1) 3 (.int .i64 a) (.int .i64 b)).run Tryd.prog W = .ok (decide (a = b)) W := by
  unfold Op.equalIn
  rw [Sem.run_bind, run_underlying Tryd.underlying3 W]
  show Result.ok (a == b) W = _
  by_cases h : a = b
  · subst h; simp
  · rw [decide_eq_false h]
    congr 1
    simpa using h
theorem stoCt : Tryd.prog.stoodInHeld 45 = false := by kernel_rfl
theorem fldCt : ∃ f1 f2 f3 f4, (Tryd.prog.fieldsOf 45).toList = [f1, f2, f3, f4] ∧ f1.name ≠ "_" ∧ f1.type = 9 ∧ f1.offset = 0 ∧ f2.name ≠ "_" ∧ f2.type = 23 ∧ f2.offset = 1 ∧ f3.name ≠ "_" ∧ f3.type = 23 ∧ f3.offset = 33 ∧ f4.name ≠ "_" ∧ f4.type = 3 ∧ f4.offset = 65 := ⟨_, _, _, _, rfl, by decide, rfl, rfl, by decide, rfl, rfl, by decide, rfl, rfl, by decide, rfl, rfl⟩
theorem eq_ct (c d : Ct) (hc : c.ok) (hd : d.ok) (W : World) : (Op.equalIn 10000 45 (.agg (ctr c)) (.agg (ctr d))).run Tryd.prog W = .ok (decide (c = d)) W := by
  obtain ⟨f1, f2, f3, f4, hf, n1, t1, o1, n2, t2, o2, n3, t3, o3, n4, t4, o4⟩ := fldCt
  rw [run_equalIn_struct W 9999 45 _ _ strCt stoCt, hf]
  rw [eqf_cons n1 (by rw [t1, o1]; exact part_st (ct_n c) W) (by rw [t1, o1]; exact part_st (ct_n d) W) (by rw [t1]; exact eq_str 9998 c.n d.n W), eqf_cons n2 (by rw [t2, o2]; exact part_key hc.1.1 (ct_k c hc.1.1) W) (by rw [t2, o2]; exact part_key hd.1.1 (ct_k d hd.1.1) W) (by rw [t2]; exact eq_key 9997 c.k d.k hc.1.1 hd.1.1 W), eqf_cons n3 (by rw [t3, o3]; exact part_key hc.2.1 (ct_x c hc.1.1 hc.2.1) W) (by rw [t3, o3]; exact part_key hd.2.1 (ct_x d hd.1.1 hd.2.1) W) (by rw [t3]; exact eq_key 9997 c.x d.x hc.2.1 hd.2.1 W), eqf_cons n4 (by rw [t4, o4]; exact part_in (ct_s c hc.1.1 hc.2.1) W) (by rw [t4, o4]; exact part_in (ct_s d hd.1.1 hd.2.1) W) (by rw [t4]; exact eq_int 9998 c.s d.s W), eqf_nil]
  obtain ⟨n, k, x, s⟩ := c
  obtain ⟨n', k', x', s'⟩ := d
  simp only [Ct.mk.injEq]
  by_cases e1 : n = n'
  · by_cases e2 : k = k'
    · by_cases e3 : x = x'
      · by_cases e4 : s = s' <;> simp [e1, e2, e3, e4]
      · simp [e1, e2, e3]
    · simp [e1, e2]
  · simp [e1]
/-! A book with one contact. -/
theorem fn_one (c : Ct) : fnC [c] c.n = c := by simp [fnC, fd]
theorem ps_one (c : Ct) : ps [c] c.n = 0 := by unfold ps; rw [cmn_zero.2 rfl]; rfl
theorem nam_bob : nam bob = true := by decide +kernel
theorem nam_ann : nam ann = true := by decide +kernel
theorem hs1 (m : ByteArray) (hn : nam m = true) (k : List Int) : seR [] [] m k = (0, some ⟨1, m, k⟩) := by
  unfold seR
  rw [if_neg (by rw [hn]; decide), if_pos (show (fnC [] m).s = 0 from rfl), if_neg (by decide)]
  rfl
theorem nxt_some (es : List Ev) (cs : List Ct) (e : Ev) : nxt es cs (some e) = (if (hpn cs e).isSome = true then es ++ [e] else es, (hpn cs e).getD cs) := rfl
theorem hs1j (m : ByteArray) (hn : nam m = true) (k : List Int) : nxt [] [] (some ⟨1, m, k⟩) = ([⟨1, m, k⟩], [⟨m, k, zr 32, 1⟩]) := by
  have e : hpn [] ⟨1, m, k⟩ = some [⟨m, k, zr 32, 1⟩] := by
    unfold hpn
    rw [if_pos hn]
    rfl
  rw [nxt_some, e]
  rfl
theorem hc1 (y : List Int) (es : List Ev) (he : es.length ≤ 10) (m : ByteArray) (k : List Int) (s : Int) (hs : s = 1 ∨ s = 2) : coR y es [⟨m, k, zr 32, s⟩] m (nbr2 y k) = (0, some ⟨4, m, k⟩) := by
  unfold coR
  have e := fn_one ⟨m, k, zr 32, s⟩
  dsimp only at e
  rw [e]
  have el : lat ⟨m, k, zr 32, s⟩ = k := by unfold lat; exact if_neg (by dsimp only; omega)
  rw [if_neg (by dsimp only; omega), if_neg (by dsimp only; omega), el, if_pos rfl]
  unfold rm
  rw [if_neg (by omega)]
theorem hc2 (y : List Int) (es : List Ev) (m : ByteArray) (k : List Int) (s : Int) (hs : s = 1 ∨ s = 2) (nr : ByteArray) (hn : ¬ nr = nbr2 y k) : coR y es [⟨m, k, zr 32, s⟩] m nr = (221, none) := by
  unfold coR
  have e := fn_one ⟨m, k, zr 32, s⟩
  dsimp only at e
  rw [e]
  have el : lat ⟨m, k, zr 32, s⟩ = k := by unfold lat; exact if_neg (by dsimp only; omega)
  rw [if_neg (by dsimp only; omega), if_neg (by dsimp only; omega), el, if_neg hn]
theorem hc1j (es : List Ev) (m : ByteArray) (hn : nam m = true) (k : List Int) (s : Int) (hs : s = 1 ∨ s = 2) : nxt es [⟨m, k, zr 32, s⟩] (some ⟨4, m, k⟩) = (es ++ [⟨4, m, k⟩], [⟨m, k, zr 32, 2⟩]) := by
  have e0 := fn_one ⟨m, k, zr 32, s⟩
  have p0 := ps_one ⟨m, k, zr 32, s⟩
  dsimp only at e0 p0
  have e : hpn [⟨m, k, zr 32, s⟩] ⟨4, m, k⟩ = some [⟨m, k, zr 32, 2⟩] := by
    unfold hpn
    rw [if_pos hn]
    show puO [⟨m, k, zr 32, s⟩] (up4 (fnC [⟨m, k, zr 32, s⟩] m) ⟨4, m, k⟩) = _
    rw [e0]
    have el : lat ⟨m, k, zr 32, s⟩ = k := by unfold lat; exact if_neg (by dsimp only; omega)
    unfold up4
    rw [el, if_pos ⟨by dsimp only; omega, by dsimp only; omega, rfl⟩]
    unfold puO putC
    dsimp only [Option.map_some]
    rw [p0]
    rfl
  rw [nxt_some, e]
  rfl
theorem nbr2_comm (p q : List Int) (hp : K32 p) (hq : K32 q) : nbr2 p q = nbr2 q p := saf_comm hp.2 hq.2 100
/-! Two books apart. -/
def Dj (g : Nat) (ve vc : Value) (g' : Nat) (ve' vc' : Value) : Prop := ∀ k, ownB g ve vc k → ¬ ownB g' ve' vc' k
theorem Dj.sym {g g' : Nat} {ve vc ve' vc' : Value} (h : Dj g ve vc g' ve' vc') : Dj g' ve' vc' g ve vc := fun k h1 h2 => h k h2 h1
theorem Dj.step {W : World} {b' g g' : Nat} {ve vc ve' vc' u v : Value} {y' : List Int} {es' : List Ev} {cs' : List Ct} (h : Dj g ve vc g' ve' vc') (hB : Bk W b' g' ve' vc' y' es' cs') (h1 : Nx W ve u) (h2 : Nx W vc v) : Dj g u v g' ve' vc' := by
  rintro k (rfl | e | e) q
  · exact h k (.inl rfl) q
  · rcases h1 with p | ⟨j, p, p2⟩
    · exact h k (.inr (.inl (p ▸ e))) q
    · rw [e] at p
      cases p
      have := (hB.low k q).2
      omega
  · rcases h2 with p | ⟨j, p, p2⟩
    · exact h k (.inr (.inr (p ▸ e))) q
    · rw [e] at p
      cases p
      have := (hB.low k q).2
      omega
theorem Bk.apart {W V : World} {b' g g' : Nat} {ve vc ve' vc' : Value} {y' : List Int} {es' : List Ev} {cs' : List Ct} (hB : Bk W b' g' ve' vc' y' es' cs') (hF : Fr (ownB g ve vc) W V) (h : Dj g ve vc g' ve' vc') : Bk V b' g' ve' vc' y' es' cs' := hB.move (fun k e => hF.block k (hB.low k e).2 (fun q => h k q e))
end Go.Proofs.YtlbcdjflcghkeaaDoor
