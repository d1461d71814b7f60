import Derived.Test.YtnohfbpmckhbbaaDoorS11
import Derived.Deep.Slices
import Derived.Deep.MidRow
namespace Go.Proofs.YtnohfbpmckhbbaaDoor
set_option maxRecDepth 100000
open Go Go.ChangeShapes Go.WideShapes Go.ChangeAt Go.RowKit Go.Deep

theorem one_of {cs : List Value} {K T A B U N : Int} {F : Bool} {ao : Option Addr} {n c : Nat} {l : List Int} (hlen : cs.length = 40) (c0 : cs[0]? = some (.int .i64 K)) (c1 : cs[1]? = some (.int .i64 T)) (c2 : cs[2]? = some (.int .i64 A)) (c3 : cs[3]? = some (.int .i64 B)) (c4 : cs[4]? = some (.int .u64 N)) (c5 : cs[5]? = some (.slice ao n c)) (el : (cs.drop 6).take 32 = l.map (Value.int .u8)) (c38 : cs[38]? = some (.bool F)) (c39 : cs[39]? = some (.int .i64 U)) : cs.toArray.all (·.oneCell') = true := by
  refine all_oneCell_toArray fun v hv => ?_
  obtain ⟨i, hi, e⟩ := List.mem_iff_getElem.1 hv
  have hv' : cs[i]? = some v := by rw [← e]; exact List.getElem?_eq_getElem hi
  have use : ∀ {k : Nat} {u : Value}, i = k → cs[k]? = some u → u.oneCell' = true → v.oneCell' = true := fun e1 e2 e3 => by
    subst e1
    rw [hv'] at e2
    cases e2
    exact e3
  by_cases h6 : i < 6
  · rcases (by omega : i = 0 ∨ i = 1 ∨ i = 2 ∨ i = 3 ∨ i = 4 ∨ i = 5) with h | h | h | h | h | h
    · exact use h c0 rfl
    · exact use h c1 rfl
    · exact use h c2 rfl
    · exact use h c3 rfl
    · exact use h c4 rfl
    · exact use h c5 rfl
  · by_cases h38 : i < 38
    · have q : ((cs.drop 6).take 32)[i - 6]? = some v := by
        rw [List.getElem?_take_of_lt (by omega), List.getElem?_drop, show 6 + (i - 6) = i by omega]
        exact hv'
      rw [el, List.getElem?_map] at q
      cases hq : l[i - 6]? with
      | none => rw [hq] at q; cases q
      | some z => rw [hq] at q; cases q; rfl
    · rcases (by omega : i = 38 ∨ i = 39) with h | h
      · exact use h c38 rfl
      · exact use h c39 rfl
set_option maxRecDepth 100000 in
theorem step_of_trod2 {H : Type} {enc : TypeId × Value → H} {W : World} {m : Nat} {cs : List Value} {x : DataW H × List MemPlace} (h : DataW.trod enc Tryd.prog W 0 (fun _ => true) true m 36 cs = some x) (hsz : ∀ n ∈ x.1.weights Tryd.prog 36, n ≤ reachBytes) : StepOf W cs.toArray := by
  obtain ⟨xs, m, rfl, rfl, hlen, hxl, hf⟩ := DataW.trod_struct Tryd.underlying36 h
  rw [cells36] at hlen
  have g0 := hf 0 _ rfl; have g1 := hf 1 _ rfl; have g2 := hf 2 _ rfl; have g3 := hf 3 _ rfl; have g4 := hf 4 _ rfl; have g5 := hf 5 _ rfl; have g6 := hf 6 _ rfl; have g7 := hf 7 _ rfl; have g8 := hf 8 _ rfl
  clear hf h
  match xs, hxl, g0, g1, g2, g3, g4, g5, g6, g7, g8, hsz with
  | [x0, x1, x2, x3, x4, x5, x6, x7, x8], _, g0, g1, g2, g3, g4, g5, g6, g7, g8, hsz =>
    obtain ⟨K, e0, _, _⟩ := DataW.trod_int Tryd.underlying3 g0
    obtain ⟨T, e1, _, _⟩ := DataW.trod_int Tryd.underlying3 g1
    obtain ⟨A, e2, _, _⟩ := DataW.trod_int Tryd.underlying3 g2
    obtain ⟨B, e3, _, _⟩ := DataW.trod_int Tryd.underlying3 g3
    obtain ⟨N, e4, _, wN⟩ := DataW.trod_int Tryd.underlying23 g4
    obtain ⟨F, e7, _⟩ := DataW.trod_bool Tryd.underlying4 g7
    obtain ⟨U, e8, _, _⟩ := DataW.trod_int Tryd.underlying3 g8
    have c0 : cs[0]? = some (.int .i64 K) := by
      have q : (cs.drop 0).take (Tryd.prog.cellsOf 3) = [.int .i64 K] := e0
      rw [one3] at q
      exact take1 q
    have c1 : cs[1]? = some (.int .i64 T) := by
      have q : (cs.drop 1).take (Tryd.prog.cellsOf 3) = [.int .i64 T] := e1
      rw [one3] at q
      exact take1 q
    have c2 : cs[2]? = some (.int .i64 A) := by
      have q : (cs.drop 2).take (Tryd.prog.cellsOf 3) = [.int .i64 A] := e2
      rw [one3] at q
      exact take1 q
    have c3 : cs[3]? = some (.int .i64 B) := by
      have q : (cs.drop 3).take (Tryd.prog.cellsOf 3) = [.int .i64 B] := e3
      rw [one3] at q
      exact take1 q
    have c4 : cs[4]? = some (.int .u64 N) := by
      have q : (cs.drop 4).take (Tryd.prog.cellsOf 23) = [.int .u64 N] := e4
      rw [one23] at q
      exact take1 q
    have c38 : cs[38]? = some (.bool F) := by
      have q : (cs.drop 38).take (Tryd.prog.cellsOf 4) = [.bool F] := e7
      rw [one4] at q
      exact take1 q
    have c39 : cs[39]? = some (.int .i64 U) := by
      have q : (cs.drop 39).take (Tryd.prog.cellsOf 3) = [.int .i64 U] := e8
      rw [one3] at q
      exact take1 q
    have q6 : DataW.trod enc Tryd.prog W 0 (fun _ => true) true m 34 ((cs.drop 6).take (Tryd.prog.cellsOf 34)) = some x6 := g6
    rw [cells34] at q6
    obtain ⟨l, hl, el, wl⟩ := ints_of_array q6
    obtain ⟨Nk, hk⟩ := key_of l hl wl
    have h5 : 5 < cs.length := by omega
    have q5 : DataW.trod enc Tryd.prog W 0 (fun _ => true) true m 32 ((cs.drop 5).take (Tryd.prog.cellsOf 32)) = some x5 := g5
    rw [one32, List.drop_eq_getElem_cons h5, List.take_succ_cons, List.take_zero] at q5
    obtain ⟨bs, hz, hb, hB, hnil⟩ := bys_of_trod q5 (fun n hn => hsz n (by
      simp only [DataW.weights, Tryd.underlying36]
      exact DataW.weights_mem_each (j := 5) (t := 32) rfl rfl n hn))
    have bN := bounds_u64 wN
    have c5 : cs[5]? = some cs[5] := List.getElem?_eq_getElem h5
    have hone : cs.toArray.all (·.oneCell') = true := by
      obtain ⟨ao5, cap5, e5, _⟩ := id hB
      exact one_of hlen c0 c1 c2 c3 c4 (c5.trans (congrArg some e5)) el c38 c39
    refine ⟨K, T, A, B, N, cs[5], (l.map (Value.int .u8)).toArray, F, U, Nk, bs, ⟨?_, hone, ?_, ?_, ?_, ?_, ?_, ?_, ?_, ?_, ?_⟩, hk, ⟨bN.1, by omega⟩, hz, hb, hB, hnil⟩
    · simpa using hlen
    · simpa using c0
    · simpa using c1
    · simpa using c2
    · simpa using c3
    · simpa using c4
    · simp [h5]
    · rw [← el]; simp
    · simpa using c38
    · simpa using c39
theorem weightsAll_inO {H : Type} {P : Program} {e : TypeId} : ∀ {l : List (DataW H)} {d : DataW H}, d ∈ l → ∀ n ∈ d.weights P e, n ∈ DataW.weightsAll P e l
  | x :: r, d, h, n, hn => by
    rw [DataW.weightsAll, List.mem_append]
    rcases List.mem_cons.1 h with rfl | h
    · exact .inl hn
    · exact .inr (weightsAll_inO h n hn)
theorem addr_addO (b off j : Nat) : (⟨b, off, none⟩ : Addr).add j = ⟨b, off + j, none⟩ := by
  unfold Addr.add
  split
  · rename_i h; rw [h]; rfl
  · rfl
theorem stp_of_trod {H : Type} {enc : TypeId × Value → H} {W : World} {m : Nat} {v : Value} {x : DataW H × List MemPlace} (hf : DataW.trod enc Tryd.prog W 0 (fun _ => true) true m 22 [v] = some x) (hs : ∀ n ∈ x.1.weights Tryd.prog 22, n ≤ reachBytes) : ∃ n, Stp W v n := by
  rcases open_slice Tryd.underlying22 hf with ⟨hcs, hx⟩ | ⟨a, len, cap, m, n, D, Pl, hcs, _, hl, hm, hmm, hx, hel⟩
  · injection hcs with hv _
    subst hv
    exact ⟨0, none, 0, rfl, by decide, fun i hi => by omega⟩
  · injection hcs with hv _
    subst hv
    subst hx
    simp only [if_true] at hmm
    subst hmm
    rw [cells36] at hel
    simp only [maxLen] at hm
    refine ⟨len, some a, _, rfl, by omega, fun i hi => ?_⟩
    obtain ⟨cs', h1, h2⟩ := hel i (by omega)
    have h3 := step_of_trod2 h2 (fun n hn => hs n (by
      simp only [DataW.weights, Tryd.underlying22]
      exact List.mem_cons_of_mem _ (List.mem_append_left _ (weightsAll_inO (List.mem_map.2 ⟨i, List.mem_range.2 hi, rfl⟩) n hn))))
    obtain ⟨_, hln, hc⟩ := World.cells?_some h1
    obtain ⟨bb, off, spot⟩ := a
    have hspot : spot = none := by
      obtain ⟨cs0, h0, _⟩ := hel 0 (by omega)
      obtain ⟨_, hl0, hc0⟩ := World.cells?_some h0
      have := hc0 0 (by omega)
      rw [List.getElem?_eq_getElem (by omega)] at this
      simpa [Addr.add] using World.cell?_spot this
    subst hspot
    have hr : W.rangeAt bb (off + i * 40) cs' := by
      intro j v hv
      have hj : j < 40 := by have := (List.getElem?_eq_some_iff.1 hv).1; omega
      have := hc j hj
      rw [addr_addO, addr_addO, hv] at this
      exact this
    refine ⟨bb, off, cs', rfl, ?_, hr, h3⟩
    have h0 := hr 0 _ (List.getElem?_eq_getElem (by omega))
    exact block_of h0
end Go.Proofs.YtnohfbpmckhbbaaDoor
