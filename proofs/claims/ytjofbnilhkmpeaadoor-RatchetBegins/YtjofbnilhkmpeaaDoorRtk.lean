import Derived.Test.YtjofbnilhkmpeaaDoorRtc
import Derived.Test.YtjofbnilhkmpeaaDoorSpm
namespace Go.Proofs.YtjofbnilhkmpeaaDoor
set_option maxRecDepth 100000
open Go Go.RowKit Go.Sort Go.ChangeShapes Go.WideShapes Go.Deep

theorem cCfA : Tryd.prog.cellsOf 27 = 3 := by kernel_rfl
theorem cPrA : Tryd.prog.cellsOf 25 = 64 := by kernel_rfl
theorem cBoA : Tryd.prog.cellsOf 4 = 1 := by kernel_rfl
theorem cLsA : Tryd.prog.cellsOf 36 = 1 := by kernel_rfl
theorem cIA : Tryd.prog.cellsOf 3 = 1 := by kernel_rfl
theorem cStA : Tryd.prog.cellsOf 38 = 332 := by kernel_rfl
theorem cells_k8 {H : Type} {enc : TypeId × Value → H} {W : World} {m : Nat} {cs : List Value} {x : DataW H × List MemPlace} (h : DataW.trod enc Tryd.prog W 0 (fun _ => true) true m 23 cs = some x) : ∃ l : List Int, K8 l ∧ cs = k8 l := by
  obtain ⟨xs, m, _, _, hlen, hn, hel⟩ := DataW.trod_array Tryd.underlying23 h
  rw [cKeyA] at hlen
  obtain ⟨l, hl, hw⟩ := ints_of cs .u8 (fun i hi => by
    have hin : i < 32 := by omega
    have e1 := hel i hin
    rw [cU8A, List.getElem?_eq_getElem (show i < xs.length by omega)] at e1
    obtain ⟨a, q0, _, q2⟩ := DataW.trod_int Tryd.underlying5 e1
    simp only [Nat.mul_one] at q0
    rw [List.drop_eq_getElem_cons hi, List.take_succ_cons, List.take_zero] at q0
    injection q0 with q0 _
    exact ⟨a, q0, q2⟩)
  refine ⟨l, ⟨?_, fun z hz => u8_of_wf (hw z hz)⟩, hl⟩
  have := congrArg List.length hl
  rw [List.length_map, hlen] at this
  omega
theorem glue {cs seg rest : List Value} {o n : Nat} (h1 : (cs.drop o).take n = seg) (h2 : cs.drop (o + n) = rest) : cs.drop o = seg ++ rest := by
  rw [← h1, ← h2, ← List.drop_drop, List.take_append_drop]
theorem cf_of_trod {H : Type} {enc : TypeId × Value → H} {W : World} {m : Nat} {cs : List Value} {x : DataW H × List MemPlace} (hf : DataW.trod enc Tryd.prog W 0 (fun _ => true) true m 27 cs = some x) : ∃ a b c : Int, cs = [.int .i64 a, .int .i64 b, .int .i64 c] := by
  obtain ⟨xs, n, _, rfl, hl, hlen, hfld⟩ := DataW.trod_struct Tryd.underlying27 hf
  rw [cCfA] at hl
  match xs, hlen with
  | [y0, y1, y2], _ =>
  have f0 : DataW.trod enc Tryd.prog W 0 (fun _ => true) true n 3 ((cs.drop 0).take (Tryd.prog.cellsOf 3)) = some y0 := hfld 0 _ rfl
  have f1 : DataW.trod enc Tryd.prog W 0 (fun _ => true) true n 3 ((cs.drop 1).take (Tryd.prog.cellsOf 3)) = some y1 := hfld 1 _ rfl
  have f2 : DataW.trod enc Tryd.prog W 0 (fun _ => true) true n 3 ((cs.drop 2).take (Tryd.prog.cellsOf 3)) = some y2 := hfld 2 _ rfl
  simp only [cIA] at f0 f1 f2
  obtain ⟨a, e0, _, _⟩ := DataW.trod_int Tryd.underlying3 f0
  obtain ⟨b, e1, _, _⟩ := DataW.trod_int Tryd.underlying3 f1
  obtain ⟨c, e2, _, _⟩ := DataW.trod_int Tryd.underlying3 f2
  refine ⟨a, b, c, ?_⟩
  have z : cs.drop 3 = [] := List.drop_eq_nil_of_le (by omega)
  exact glue e0 (glue e1 (glue e2 z))
theorem pr_of_trod {H : Type} {enc : TypeId × Value → H} {W : World} {m : Nat} {cs : List Value} {x : DataW H × List MemPlace} (hf : DataW.trod enc Tryd.prog W 0 (fun _ => true) true m 25 cs = some x) : ∃ a b : List Int, K8 a ∧ K8 b ∧ cs = k8 a ++ (k8 b ++ []) := by
  obtain ⟨xs, n, _, rfl, hl, hlen, hfld⟩ := DataW.trod_struct Tryd.underlying25 hf
  rw [cPrA] at hl
  match xs, hlen with
  | [y0, y1], _ =>
  have f0 : DataW.trod enc Tryd.prog W 0 (fun _ => true) true n 23 ((cs.drop 0).take (Tryd.prog.cellsOf 23)) = some y0 := hfld 0 _ rfl
  have f1 : DataW.trod enc Tryd.prog W 0 (fun _ => true) true n 23 ((cs.drop 32).take (Tryd.prog.cellsOf 23)) = some y1 := hfld 1 _ rfl
  simp only [cKeyA] at f0 f1
  obtain ⟨a, ha, e0⟩ := cells_k8 f0
  obtain ⟨b, hb, e1⟩ := cells_k8 f1
  refine ⟨a, b, ha, hb, ?_⟩
  have z : cs.drop 64 = [] := List.drop_eq_nil_of_le (by omega)
  exact glue e0 (glue e1 z)
theorem stt_of_trod {H : Type} {enc : TypeId × Value → H} {W : World} {m : Nat} {cs : List Value} {x : DataW H × List MemPlace} (hf : DataW.trod enc Tryd.prog W 0 (fun _ => true) true m 38 cs = some x) (hs : ∀ n ∈ x.1.weights Tryd.prog 38, n ≤ reachBytes) : ∃ (s : Stt) (l : List Sr), s.ok ∧ K8 s.opr ∧ cs = stlx s [] ∧ SpL W s.sp l := by
  obtain ⟨xs, n, _, rfl, hl, hlen, hfld⟩ := DataW.trod_struct Tryd.underlying38 hf
  rw [cStA] at hl
  match xs, hlen with
  | [y0, y1, y2, y3, y4, y5, y6, y7, y8, y9, y10, y11, y12, y13, y14, y15, y16, y17, y18], _ =>
  have f0 : DataW.trod enc Tryd.prog W 0 (fun _ => true) true n 27 ((cs.drop 0).take (Tryd.prog.cellsOf 27)) = some y0 := hfld 0 _ rfl
  rw [cCfA] at f0
  have f1 : DataW.trod enc Tryd.prog W 0 (fun _ => true) true n 23 ((cs.drop 3).take (Tryd.prog.cellsOf 23)) = some y1 := hfld 1 _ rfl
  rw [cKeyA] at f1
  have f2 : DataW.trod enc Tryd.prog W 0 (fun _ => true) true n 25 ((cs.drop 35).take (Tryd.prog.cellsOf 25)) = some y2 := hfld 2 _ rfl
  rw [cPrA] at f2
  have f3 : DataW.trod enc Tryd.prog W 0 (fun _ => true) true n 23 ((cs.drop 99).take (Tryd.prog.cellsOf 23)) = some y3 := hfld 3 _ rfl
  rw [cKeyA] at f3
  have f4 : DataW.trod enc Tryd.prog W 0 (fun _ => true) true n 4 ((cs.drop 131).take (Tryd.prog.cellsOf 4)) = some y4 := hfld 4 _ rfl
  rw [cBoA] at f4
  have f5 : DataW.trod enc Tryd.prog W 0 (fun _ => true) true n 4 ((cs.drop 132).take (Tryd.prog.cellsOf 4)) = some y5 := hfld 5 _ rfl
  rw [cBoA] at f5
  have f6 : DataW.trod enc Tryd.prog W 0 (fun _ => true) true n 4 ((cs.drop 133).take (Tryd.prog.cellsOf 4)) = some y6 := hfld 6 _ rfl
  rw [cBoA] at f6
  have f7 : DataW.trod enc Tryd.prog W 0 (fun _ => true) true n 23 ((cs.drop 134).take (Tryd.prog.cellsOf 23)) = some y7 := hfld 7 _ rfl
  rw [cKeyA] at f7
  have f8 : DataW.trod enc Tryd.prog W 0 (fun _ => true) true n 23 ((cs.drop 166).take (Tryd.prog.cellsOf 23)) = some y8 := hfld 8 _ rfl
  rw [cKeyA] at f8
  have f9 : DataW.trod enc Tryd.prog W 0 (fun _ => true) true n 23 ((cs.drop 198).take (Tryd.prog.cellsOf 23)) = some y9 := hfld 9 _ rfl
  rw [cKeyA] at f9
  have f10 : DataW.trod enc Tryd.prog W 0 (fun _ => true) true n 35 ((cs.drop 230).take (Tryd.prog.cellsOf 35)) = some y10 := hfld 10 _ rfl
  rw [cU32A] at f10
  have f11 : DataW.trod enc Tryd.prog W 0 (fun _ => true) true n 35 ((cs.drop 231).take (Tryd.prog.cellsOf 35)) = some y11 := hfld 11 _ rfl
  rw [cU32A] at f11
  have f12 : DataW.trod enc Tryd.prog W 0 (fun _ => true) true n 4 ((cs.drop 232).take (Tryd.prog.cellsOf 4)) = some y12 := hfld 12 _ rfl
  rw [cBoA] at f12
  have f13 : DataW.trod enc Tryd.prog W 0 (fun _ => true) true n 23 ((cs.drop 233).take (Tryd.prog.cellsOf 23)) = some y13 := hfld 13 _ rfl
  rw [cKeyA] at f13
  have f14 : DataW.trod enc Tryd.prog W 0 (fun _ => true) true n 23 ((cs.drop 265).take (Tryd.prog.cellsOf 23)) = some y14 := hfld 14 _ rfl
  rw [cKeyA] at f14
  have f15 : DataW.trod enc Tryd.prog W 0 (fun _ => true) true n 23 ((cs.drop 297).take (Tryd.prog.cellsOf 23)) = some y15 := hfld 15 _ rfl
  rw [cKeyA] at f15
  have f16 : DataW.trod enc Tryd.prog W 0 (fun _ => true) true n 35 ((cs.drop 329).take (Tryd.prog.cellsOf 35)) = some y16 := hfld 16 _ rfl
  rw [cU32A] at f16
  have f17 : DataW.trod enc Tryd.prog W 0 (fun _ => true) true n 4 ((cs.drop 330).take (Tryd.prog.cellsOf 4)) = some y17 := hfld 17 _ rfl
  rw [cBoA] at f17
  have f18 : DataW.trod enc Tryd.prog W 0 (fun _ => true) true n 36 ((cs.drop 331).take (Tryd.prog.cellsOf 36)) = some y18 := hfld 18 _ rfl
  rw [cLsA] at f18
  obtain ⟨cv, ck, cs_, e0⟩ := cf_of_trod f0
  obtain ⟨root, k_root, e1⟩ := cells_k8 f1
  obtain ⟨opr, opu, k_opr, k_opu, e2⟩ := pr_of_trod f2
  obtain ⟨peer, k_peer, e3⟩ := cells_k8 f3
  obtain ⟨ho, e4, _⟩ := DataW.trod_bool Tryd.underlying4 f4
  obtain ⟨hp, e5, _⟩ := DataW.trod_bool Tryd.underlying4 f5
  obtain ⟨tu, e6, _⟩ := DataW.trod_bool Tryd.underlying4 f6
  obtain ⟨snd, k_snd, e7⟩ := cells_k8 f7
  obtain ⟨shd, k_shd, e8⟩ := cells_k8 f8
  obtain ⟨nsd, k_nsd, e9⟩ := cells_k8 f9
  obtain ⟨sn, e10, _, _⟩ := DataW.trod_int Tryd.underlying35 f10
  obtain ⟨pv, e11, _, _⟩ := DataW.trod_int Tryd.underlying35 f11
  obtain ⟨hs_, e12, _⟩ := DataW.trod_bool Tryd.underlying4 f12
  obtain ⟨rcv, k_rcv, e13⟩ := cells_k8 f13
  obtain ⟨rhd, k_rhd, e14⟩ := cells_k8 f14
  obtain ⟨nrv, k_nrv, e15⟩ := cells_k8 f15
  obtain ⟨rn, e16, _, _⟩ := DataW.trod_int Tryd.underlying35 f16
  obtain ⟨hr, e17, _⟩ := DataW.trod_bool Tryd.underlying4 f17
  have hz : ((cs.drop 331).take 1).length = 1 := by rw [List.length_take, List.length_drop]; omega
  obtain ⟨sp, e18⟩ := List.length_eq_one_iff.1 hz
  rw [e18] at f18
  obtain ⟨l, hL⟩ := spl_of_trod f18 (fun n hn => hs n (by
    simp only [DataW.weights, Tryd.underlying38]
    exact DataW.weights_mem_each (j := 18) rfl rfl n hn))
  have hsp1 : sp.oneCell' = true := by
    obtain ⟨ao, cap, rfl⟩ := hL.form
    rfl
  refine ⟨⟨cv, ck, cs_, root, opr, opu, peer, ho, hp, tu, snd, shd, nsd, sn, pv, hs_, rcv, rhd, nrv, rn, hr, sp⟩, l, ⟨k_root.1, k_opr.1, k_opu.1, k_peer.1, k_snd.1, k_shd.1, k_nsd.1, k_rcv.1, k_rhd.1, k_nrv.1, hsp1⟩, k_opr, ?_, hL⟩
  have z : cs.drop 332 = [] := List.drop_eq_nil_of_le (by omega)
  have a18 := glue e18 z
  have a17 := glue e17 a18
  have a16 := glue e16 a17
  have a15 := glue e15 a16
  have a14 := glue e14 a15
  have a13 := glue e13 a14
  have a12 := glue e12 a13
  have a11 := glue e11 a12
  have a10 := glue e10 a11
  have a9 := glue e9 a10
  have a8 := glue e8 a9
  have a7 := glue e7 a8
  have a6 := glue e6 a7
  have a5 := glue e5 a6
  have a4 := glue e4 a5
  have a3 := glue e3 a4
  have a2 := glue e2 a3
  have a1 := glue e1 a2
  have a0 := glue e0 a1
  rw [List.drop_zero] at a0
  rw [a0]
  simp only [stlx, List.append_assoc, List.nil_append, List.cons_append]
end Go.Proofs.YtjofbnilhkmpeaaDoor
