import Derived.Test.YtleeadbceljfbaaGreatDoorCQa1
import Derived.Test.YtleeadbceljfbaaGreatDoorCJrx
import Derived.WalkKit
import Derived.ProofKit
import Derived.OpenShut
import Derived.ChangeSlices
import Derived.ChangeArms
import Derived.SizedLaws
import Derived.Test.YtleeadbceljfbaaGreatDoorCQa6
import Derived.Deep.Slices
import Derived.Test.YtleeadbceljfbaaGreatDoorProg
import Derived.WalkSpells
import Derived.WalkLawsBesides
import Derived.Lib.QuietBelow
import Derived.Laws.BitsAllLaws
import Derived.BigQuiet
import Derived.WalkMore
import Derived.Test.YtleeadbceljfbaaGreatDoorCKa
import Derived.Test.YtleeadbceljfbaaGreatDoorCQc0
import Derived.Test.YtleeadbceljfbaaGreatDoorCQb3
import Derived.Test.YtleeadbceljfbaaGreatDoorCQb0
import Derived.OwnWalk
import Derived.Deep.Cut
import Derived.Deep.RegionHeld3
namespace Go.Proofs.YtleeadbceljfbaaGreatDoor
set_option maxRecDepth 100000
open Go Go.ChangeShapes Go.WideShapes Go.ChangeAt Go.RowKit
theorem cSl6 : Tryz.prog.cellsOf 28 = 1 := by kernel_rfl
theorem cU86 : Tryz.prog.cellsOf 5 = 1 := by kernel_rfl
theorem bU86 : Tryz.prog.bytesOf 5 = 1 := by kernel_rfl
theorem block_lt6 {w : World} {b o : Nat} {v : Value} (h : w.cell? ⟨b, o, none⟩ = some v) : b < w.heap.size := by
 rcases Nat.lt_or_ge b w.heap.size with q | q
 · exact q
 · simp [World.cell?, Array.getElem?_eq_none q] at h
def BysC (W : World) (v : Value) (d : List B) : Prop := BysB W v d ∧ d.length ≤ 140737488351232 ∧ ∀ a l c, v = .slice a l c → l ≤ c
theorem bysC_of_trod {H : Type} {enc : TypeId × Value → H} {W : World} {m : Nat} {cs : List Value} {x : DataW H × List MemPlace} (hf : DataW.trod enc Tryz.prog W 0 (fun _ => true) true m 28 cs = some x) (hs : ∀ n ∈ x.1.weights Tryz.prog 28, n ≤ reachBytes) : ∃ v d, cs = [v] ∧ BysC W v d := by
 rcases open_ints Tryz.underlying28 Tryz.underlying5 cU86 hf with ⟨hcs, hx⟩ | ⟨a, len, cap, zs, hcs, _, hl, hm, hz, hx, hcell, hwz⟩
 · exact ⟨_, [], hcs, ⟨⟨none, 0, rfl, by decide, fun j hj => by simp [bl] at hj, bl_bnd _⟩, by decide, fun a l c h _ => by cases h; rfl⟩, by simp, fun a l c h => by cases h; exact Nat.le_refl _⟩
 · subst hx
   simp only [if_true] at hz
   have hb := hs ((lits (H := H) .u8 (zs.take len)).length + (lits (H := H) .u8 (zs.drop len)).length) (by simp [DataW.weights, Tryz.underlying28, bU86])
   simp only [lits, List.length_map, List.length_take, List.length_drop, reachBytes] at hb
   have hlen : (zs.take len).length = len := by rw [List.length_take]; omega
   obtain ⟨d, hd, e⟩ := bl_of (zs.take len) (fun z h => u8_of_wf (hwz z (List.mem_of_mem_take h)))
   rw [hlen] at e
   refine ⟨_, d, hcs, ⟨⟨some a, cap, by rw [bl_len, e], by rw [bl_len]; omega, fun j hj => ?_, bl_bnd _⟩, by omega, fun a l c h h2 => by cases h; cases h2⟩, by omega, fun a l c h => by cases h; exact hl⟩
   rw [bl_len, e] at hj
   have hc := hcell j (by omega)
   obtain ⟨bb, off, spot⟩ := a
   have hspot : spot = none := by simpa [Addr.add] using World.cell?_spot (hcell 0 (by omega))
   subst hspot
   rw [addr_add] at hc
   refine ⟨bb, off, rfl, block_lt6 hc, ?_⟩
   rw [hc, ← hd, List.getD_eq_getElem?_getD, List.getD_eq_getElem?_getD, List.getElem?_take_of_lt hj]
end Go.Proofs.YtleeadbceljfbaaGreatDoor
namespace Go.Proofs.YtleeadbceljfbaaGreatDoor
set_option maxRecDepth 100000
open Go Go.ChangeShapes Go.WideShapes Go.ChangeAt Go.RowKit Go.Deep
/-! Fields out of the data. -/
theorem bFd48 : Tryz.prog.bytesOf 60 = 48 := by kernel_rfl
theorem cFd4 : Tryz.prog.cellsOf 60 = 4 := by kernel_rfl
theorem cI1 : Tryz.prog.cellsOf 3 = 1 := by kernel_rfl
theorem cU1 : Tryz.prog.cellsOf 58 = 1 := by kernel_rfl
theorem weightsAll_inF {H : Type} {P : Program} {e : TypeId} : ∀ {l : List (DataW H)} {d : DataW H}, d ∈ l → ∀ n ∈ d.weights P e, n ∈ DataW.weightsAll P e l
 | x :: r, d, h, n, hn => by
   rw [DataW.weightsAll, List.mem_append]
   rcases List.mem_cons.1 h with rfl | h
   · exact .inl hn
   · exact .inr (weightsAll_inF h n hn)
theorem range_gf (PS : Nat → Fd) (n i : Nat) (h : i < n) : gf ((List.range n).map PS) i = PS i := by
 rw [gf, List.getD_eq_getElem?_getD, List.getElem?_map, List.getElem?_range h]; rfl
theorem fd_of_trod {H : Type} {enc : TypeId × Value → H} {W : World} {m : Nat} {cs : List Value} {x : DataW H × List MemPlace} (h : DataW.trod enc Tryz.prog W 0 (fun _ => true) true m 60 cs = some x) (hs : ∀ n ∈ x.1.weights Tryz.prog 60, n ≤ reachBytes) : ∃ (f : Fd) (u : Value), cs = frow f u ∧ BysB W u f.dat ∧ Fok f := by
 obtain ⟨xs, m, rfl, rfl, hlen, hxl, hf⟩ := DataW.trod_struct Tryz.underlying60 h
 rw [cFd4] at hlen
 have g0 := hf 0 _ rfl; have g1 := hf 1 _ rfl; have g2 := hf 2 _ rfl; have g3 := hf 3 _ rfl
 clear hf h
 match cs, hlen, xs, hxl, g0, g1, g2, g3, hs with
 | [c0, c1, c2, c3], _, [x0, x1, x2, x3], _, g0, g1, g2, g3, hs =>
   obtain ⟨K, e0, _, wK⟩ := DataW.trod_int Tryz.underlying3 g0
   obtain ⟨A, e1, _, _⟩ := DataW.trod_int Tryz.underlying3 g1
   obtain ⟨C, e2, _, wC⟩ := DataW.trod_int Tryz.underlying58 g2
   have q0 : c0 = .int .i64 K := by
     have q : ([c0, c1, c2, c3].drop 0).take (Tryz.prog.cellsOf 3) = [.int .i64 K] := e0
     rw [cI1] at q
     simpa using q
   have q1 : c1 = .int .i64 A := by
     have q : ([c0, c1, c2, c3].drop 1).take (Tryz.prog.cellsOf 3) = [.int .i64 A] := e1
     rw [cI1] at q
     simpa using q
   have q2 : c2 = .int .u64 C := by
     have q : ([c0, c1, c2, c3].drop 2).take (Tryz.prog.cellsOf 58) = [.int .u64 C] := e2
     rw [cU1] at q
     simpa using q
   have q3 : DataW.trod enc Tryz.prog W 0 (fun _ => true) true m 28 [c3] = some x3 := by
     have q : DataW.trod enc Tryz.prog W 0 (fun _ => true) true m 28 (([c0, c1, c2, c3].drop 3).take (Tryz.prog.cellsOf 28)) = some x3 := g3
     rw [cSl6] at q
     simpa using q
   obtain ⟨v', d, ev, hB⟩ := bysC_of_trod q3 (fun n hn => hs n (by
     simp only [DataW.weights, Tryz.underlying60]
     exact DataW.weights_mem_each (j := 3) rfl rfl n hn))
   have ev' : c3 = v' := by simpa using ev
   subst ev'
   have bC := bounds_u64 wC
   have bK := bounds_i64 wK
   obtain ⟨N, rfl⟩ := Int.eq_ofNat_of_zero_le bC.1
   exact ⟨⟨K, A, N, d⟩, c3, by rw [q0, q1, q2]; rfl, hB.1, by show N < _; omega, hB.2.1, by show _ ≤ K; omega, by show K ≤ _; omega⟩
theorem fds_of_trod {H : Type} {enc : TypeId × Value → H} {W : World} {m : Nat} {v : Value} {x : DataW H × List MemPlace} (hf : DataW.trod enc Tryz.prog W 0 (fun _ => true) true m 55 [v] = some x) (hs : ∀ n ∈ x.1.weights Tryz.prog 55, n ≤ reachBytes) : ∃ fs : List Fd, Fds W v fs := by
 rcases open_slice Tryz.underlying55 hf with ⟨hcs, hx⟩ | ⟨a, len, cap, m, n, D, Pl, hcs, _, hl, hm, hmm, hx, hel⟩
 · injection hcs with hv _
   subst hv
   exact ⟨[], ⟨none, 0, rfl, by decide, by decide, fun _ => rfl, fun i hi => by simp at hi⟩⟩
 · injection hcs with hv _
   subst hv
   subst hx
   simp only [if_true] at hmm
   subst hmm
   rw [cFd4] at hel
   have hb := hs ((((List.range len).map D).length + ((List.range (m - len)).map fun j => D (len + j)).length) * 48) (by simp [DataW.weights, Tryz.underlying55, bFd48])
   simp only [List.length_map, List.length_range, reachBytes] at hb
   obtain ⟨PS, hPS⟩ := @choose_lt Fd ⟨f0⟩ len (fun i f => ∃ cs' u, W.cells? 0 (a.add (i * 4)) 4 = some cs' ∧ cs' = frow f u ∧ BysB W u f.dat ∧ Fok f) (fun i hi => by
     obtain ⟨cs', h1, h2⟩ := hel i (by omega)
     obtain ⟨f, u, h3, h4, h5⟩ := fd_of_trod h2 (fun n hn => hs n (by
       simp only [DataW.weights, Tryz.underlying55]
       exact List.mem_cons_of_mem _ (List.mem_append_left _ (weightsAll_inF (List.mem_map.2 ⟨i, List.mem_range.2 hi, rfl⟩) n hn))))
     exact ⟨f, cs', u, h1, h3, h4, h5⟩)
   refine ⟨(List.range len).map PS, ⟨some a, _, by simp; rfl, by simp; omega, by simp; exact hl, (fun e => by cases e), fun i hi => ?_⟩⟩
   have hi' : i < len := by simpa using hi
   obtain ⟨cs', u, h1, h2, h3, h4⟩ := hPS i hi'
   obtain ⟨_, hln, hc⟩ := World.cells?_some h1
   obtain ⟨bb, off, spot⟩ := a
   have hspot : spot = none := by
     obtain ⟨cs0, h0, _⟩ := hel 0 (by omega)
     obtain ⟨_, hl0, hc0⟩ := World.cells?_some h0
     have := hc0 0 (by omega)
     rw [List.getElem?_eq_getElem (by omega)] at this
     simpa [Addr.add] using World.cell?_spot this
   subst hspot
   rw [range_gf PS len i hi']
   have hr : W.rangeAt bb (off + i * 4) cs' := by
     intro j v hv
     have hj : j < 4 := by have := (List.getElem?_eq_some_iff.1 hv).1; omega
     have := hc j hj
     rw [addr_add, addr_add, hv] at this
     exact this
   rw [h2] at hr
   exact ⟨bb, off, u, rfl, block_lt6 (hr 0 _ rfl), hr, h3, h4⟩
end Go.Proofs.YtleeadbceljfbaaGreatDoor
namespace Go.Proofs.YtleeadbceljfbaaGreatDoor
set_option maxRecDepth 100000
open Go Go.RowKit Go.Sort
attribute [local go_sem] setCell_drewN alloc_drewN
theorem own_cap {W : World} {b : Nat} {v : Value} {d : List B} (h : Own W b v d) : ∀ a l c, v = .slice a l c → l ≤ c := by
 intro a l c e
 obtain ⟨_, ⟨rfl, h0⟩ | ⟨g, cap, cur, rfl, _, _, hn, _⟩⟩ := h
 · cases e; omega
 · cases e; exact hn
theorem Fds.okm {W : World} {v : Value} {fs : List Fd} (h : Fds W v fs) : ∀ f ∈ fs, Fok f := by
 intro f hf
 obtain ⟨i, hi, rfl⟩ := List.getElem_of_mem hf
 have := h.ok hi
 rwa [gf, List.getD_eq_getElem?_getD, List.getElem?_eq_getElem hi] at this
theorem eer_len {fs : List Fd} (h : eer fs = 0) : fs.length ≤ 64 ∧ (ebs fs).length ≤ 4194304 := by
 unfold eer at h
 split at h
 · simp at h
 · split at h
   · rename_i q; exact absurd h q
   · split at h
     · simp at h
     · omega
theorem one_er {f : Fd} (h : hck f 0 = 0) (hf : fits f) (hl : (fvl f).length ≤ 100) (hh : fhd f < 18446744073709551616) : eer [f] = 0 := by
 have hk : fck f 0 = 0 := by rw [fck, if_neg (by rw [h]; simp), if_pos hf]
 have he : ech [f] 0 = 0 := by rw [ech, if_neg (by rw [hk]; simp)]; rfl
 have := en_ten hh
 rw [eer, if_neg (by simp), if_neg (by rw [he]; simp), if_neg (by rw [ebs_one, fby, List.length_append]; omega)]
theorem there_back {fs : List Fd} (h : eer fs = 0) (hok : ∀ f ∈ fs, Fok f) (w : World) (v : Value) (b : Nat) (hO : Own w b v (ebs fs)) : Calls Tryz.prog 26 #[v] w fun e w' => ∃ u us, e = .returned (.tuple #[u, .int .i64 0, .int .i64 0]) ∧ Fts w' w.heap.size u us fs ∧ Below w.heap.size w w' := by
 have h1 := enc_dec h hok
 have c := a_decode (ebs fs) w v (hO.bysB (by have := (eer_len h).2; omega)) (own_cap hO)
 rw [h1.1, h1.2.1, h1.2.2] at c
 exact c
theorem oks_i {fs : List Fd} (hok : ∀ f ∈ fs, Fok f) : ∀ i, i < fs.length → Fok (gf fs i) := by
 intro i hi
 refine hok _ ?_
 rw [gf, List.getD_eq_getElem?_getD, List.getElem?_eq_getElem hi]
 exact List.getElem_mem hi
end Go.Proofs.YtleeadbceljfbaaGreatDoor
namespace Go.Proofs.YtleeadbceljfbaaGreatDoor
set_option maxRecDepth 100000
open Go Go.RowKit Go.Sort
def ftF (t : Slt) (f : Fd) : Int := if t.kind = 5 then wth (f.dat.length : Int) (t.least : Int) (t.most : Int) else if t.kind = 4 then wth (f.num : Int) 0 1 else wth (f.num : Int) (t.least : Int) (t.most : Int)
def rdE (at_ E : Int) : Option Flt3 := if E = 0 then none else some ⟨0, at_, E⟩
def dsl (t : Slt) (f : Fd) (at_ : Int) : Option Flt3 := if f.no ≠ t.no then some ⟨0, at_, 81⟩ else if f.ty ≠ wtK t then some ⟨0, at_, 82⟩ else rdE at_ (ftF t f)
def dcF : List Slt → List Fd → Int → Option Flt3
 | [], [], _ => none
 | [], _ :: _, at_ => some ⟨0, at_, 81⟩
 | _ :: _, [], at_ => some ⟨0, at_, 81⟩
 | t :: ts, f :: fs, at_ => match dsl t f at_ with
   | some x => some x
   | none => dcF ts fs (at_ + ((fby f).length : Int))
def dec8 (ts : List Slt) (d : List B) (from_ : Int) : Option Flt3 := if der (dwh d) ≠ 0 then some ⟨0, from_ + dpl (dwh d), der (dwh d)⟩ else dcF ts (dfs (dwh d)) from_
theorem fdrop (fs : List Fd) (k : Nat) (h : k < fs.length) : fs.drop k = gf fs k :: fs.drop (k + 1) := by
 rw [List.drop_eq_getElem_cons h]
 simp [gf, List.getD_eq_getElem?_getD, List.getElem?_eq_getElem h]
theorem dcF_step {ts : List Slt} {fs : List Fd} {at_ : Int} {k : Nat} (h1 : k < ts.length) (h2 : k < fs.length) : dcF (ts.drop k) (fs.drop k) at_ = match dsl (gs ts k) (gf fs k) at_ with
   | some x => some x
   | none => dcF (ts.drop (k + 1)) (fs.drop (k + 1)) (at_ + ((fby (gf fs k)).length : Int)) := by
 rw [sdrop ts k h1, fdrop fs k h2, dcF]
 try (cases dsl (gs ts k) (gf fs k) at_ <;> rfl)
theorem dcF_short {ts : List Slt} {fs : List Fd} {at_ : Int} {k : Nat} (h1 : k < ts.length) (h2 : fs.length = k) : dcF (ts.drop k) (fs.drop k) at_ = some ⟨0, at_, 81⟩ := by
 rw [sdrop ts k h1, List.drop_of_length_le (show fs.length ≤ k by omega), dcF]
theorem dcF_long {ts : List Slt} {fs : List Fd} {at_ : Int} {k : Nat} (h1 : ts.length = k) (h2 : k < fs.length) : dcF (ts.drop k) (fs.drop k) at_ = some ⟨0, at_, 81⟩ := by
 rw [List.drop_of_length_le (by omega : ts.length ≤ k), fdrop fs k h2, dcF]
theorem dcF_end {ts : List Slt} {fs : List Fd} {at_ : Int} {k : Nat} (h1 : ts.length = k) (h2 : fs.length = k) : dcF (ts.drop k) (fs.drop k) at_ = none := by
 rw [List.drop_of_length_le (by omega : ts.length ≤ k), List.drop_of_length_le (by omega : fs.length ≤ k), dcF]
theorem en_head (no ty : Nat) (ht : ty < 8) : (en (8 * no + ty)).length = (en (8 * no)).length := by
 by_cases h : no < 16
 · rw [en_lo (n := 8 * no + ty) (by omega), en_lo (n := 8 * no) (by omega)]
   rfl
 · rw [en_hi (n := 8 * no + ty) (by omega), en_hi (n := 8 * no) (by omega), List.length_cons, List.length_cons, show (8 * no + ty) / 128 = 8 * no / 128 by omega]
end Go.Proofs.YtleeadbceljfbaaGreatDoor
namespace Go.Proofs.YtleeadbceljfbaaGreatDoor
set_option maxRecDepth 100000
open Go Go.RowKit Go.Sort
attribute [local go_sem] setCell_drewN alloc_drewN
set_option maxRecDepth 100000 in
set_option maxHeartbeats 8000000 in
theorem a_plain3 (k : FuncId) (hk : k = 97 ∨ k = 99 ∨ k = 101) (n : Nat) (no ty : Int) (da : Option Addr) (dl dc : Nat) (at_ E : Int) (g2 gs : Nat) (w : World) (h2 : Bx w g2 #[.func (.func k) #[] #[ptr gs]])
   (hF : ∀ V, Below w.heap.size w V → Calls Tryz.prog k #[.agg (vrw n (.slice da dl dc) (.slice none 0 0)), ptr gs] V fun e w' => e = .returned (.int .i64 E) ∧ Below V.heap.size V w') :
   Calls Tryz.prog 108 #[.agg #[.int .i64 no, .int .i64 ty, .int .u64 (n : Int), .slice da dl dc], .int .i64 at_, ptr g2] w fun e w' => Gup w.heap.size (rdE at_ E) e w' (fun v => v = .agg (vrw n (.slice da dl dc) (.slice none 0 0))) ∧ Below w.heap.size w w' := by
 obtain ⟨T2, h2⟩ := h2
 have l2 := lt_of_row h2
 have r1 := hp3_1 w (.cells #[.int .i64 no, .int .i64 ty, .int .u64 (n : Int), .slice da dl dc] 60) (.cells #[.int .u64 0, .slice none 0 0, .slice none 0 0] 80) (.cells #[.int .u64 0, .slice none 0 0, .slice none 0 0] 80)
 have r2 := hp3_2 w (.cells #[.int .i64 no, .int .i64 ty, .int .u64 (n : Int), .slice da dl dc] 60) (.cells #[.int .u64 0, .slice none 0 0, .slice none 0 0] 80) (.cells #[.int .u64 0, .slice none 0 0, .slice none 0 0] 80)
 have hb0 : Below w.heap.size w (((w.alloc (.cells #[.int .i64 no, .int .i64 ty, .int .u64 (n : Int), .slice da dl dc] 60)).alloc (.cells #[.int .u64 0, .slice none 0 0, .slice none 0 0] 80)).alloc (.cells #[.int .u64 0, .slice none 0 0, .slice none 0 0] 80)) := (((Below.refl _ _).alloc (Nat.le_refl _) _).alloc (by simp) _).alloc (by simp; omega) _
 have hb := below_setRow (g := w.heap.size + 1 + 1) hb0 (by omega) #[.int .u64 (n : Int), .slice da dl dc, .slice none 0 0]
 have RV := setRow_heap _ (w.heap.size + 1 + 1) _ #[.int .u64 (n : Int), .slice da dl dc, .slice none 0 0] _ _ r2
 have R1 := (setRow_other (((w.alloc (.cells #[.int .i64 no, .int .i64 ty, .int .u64 (n : Int), .slice da dl dc] 60)).alloc (.cells #[.int .u64 0, .slice none 0 0, .slice none 0 0] 80)).alloc (.cells #[.int .u64 0, .slice none 0 0, .slice none 0 0] 80)) (w.heap.size + 1 + 1) (w.heap.size + 1) #[.int .u64 (n : Int), .slice da dl dc, .slice none 0 0] (by omega)).trans r1
 have a1 : ¬ w.heap.size = g2 := by omega
 have a2 : ¬ g2 = w.heap.size := by omega
 have a3 : ¬ w.heap.size + 1 = g2 := by omega
 have a4 : ¬ g2 = w.heap.size + 1 := by omega
 have a5 : ¬ w.heap.size + 1 + 1 = g2 := by omega
 have a6 : ¬ g2 = w.heap.size + 1 + 1 := by omega
 have hone : (#[.int .u64 (n : Int), .slice da dl dc, .slice none 0 0] : Array Value).all (·.oneCell') = true := by simp [Value.oneCell']
 have c2 : ((((w.alloc (.cells #[.int .i64 no, .int .i64 ty, .int .u64 (n : Int), .slice da dl dc] 60)).alloc (.cells #[.int .u64 0, .slice none 0 0, .slice none 0 0] 80)).alloc (.cells #[.int .u64 0, .slice none 0 0, .slice none 0 0] 80)).setRow (w.heap.size + 1 + 1) #[.int .u64 (n : Int), .slice da dl dc, .slice none 0 0]).cell? ⟨g2, 0, none⟩ = some (.func (.func k) #[] #[ptr gs]) := (hb.cell (p := ⟨g2, 0, none⟩) l2).trans (by rw [cell_of_row _ _ _ _ _ _ h2]; rfl)
 have cF := hF _ hb
 have cE := a_giveUp 0 at_ E
 obtain ⟨R, hR⟩ : ∃ R, rdE at_ E = R := ⟨_, rfl⟩
 rw [hR]
 unfold vrw at cF ⊢
 unfold ptr at *
 replace hb := hide hb
 replace RV := hide RV
 replace R1 := hide R1
 replace cF := hide cF
 replace c2 := hide c2
 clear hF h2 hb0 r1
 go_enter Tryz.func108, Tryz.ntmps108
 go_wp2_with (first | (refine wpList_store_row rfl 80 _ _ rfl (w.heap.size + 1 + 1) #[.int .u64 (n : Int), .slice da dl dc, .slice none 0 0] rfl rfl 80 _ r2 infoV rfl hone ?_; refine wpList_stay ?_) | fail)
 unfold WpStay
 clear r2
 generalize (((w.alloc (.cells #[.int .i64 no, .int .i64 ty, .int .u64 (n : Int), .slice da dl dc] 60)).alloc (.cells #[.int .u64 0, .slice none 0 0, .slice none 0 0] 80)).alloc (.cells #[.int .u64 0, .slice none 0 0, .slice none 0 0] 80)).setRow (w.heap.size + 1 + 1) #[.int .u64 (n : Int), .slice da dl dc, .slice none 0 0] = W4 at *
 have RW := RV.out
 have c2' := c2.out
 clear RV c2
 rcases hk with rfl | rfl | rfl
 all_goals
   go_wp2_with (first | (refine wpList_load_want rfl 80 _ rfl (w.heap.size + 1 + 1) rfl 80 #[.int .u64 (n : Int), .slice da dl dc, .slice none 0 0] (0, 0) _ RW Tryz.underlying80 rfl infoV ?_) | fail)
   refine cF.out.mono ?_
   rintro e_ w1 ⟨rfl, hb1⟩
   have R11 := keep hb1 R1.out
   have RW1 := keep hb1 RW
   have hw := Below.after hb.out hb1
   clear cF hb hb1 R1 RW c2'
   rcases hE : (E == 0)
   · have hE2 : ¬ E = 0 := by simpa using hE
     have eR : R = some ⟨0, at_, E⟩ := by rw [← hR, rdE, if_neg hE2]
     replace eR := hide eR
     clear hR
     go_wp2_with (fail)
     refine (cE _).mono ?_
     rintro e_ w2 ⟨hg, hb2⟩
     obtain ⟨g, rfl, hgl, hgr⟩ := hg
     have szw := hw.size
     replace hw := Below.after hw hb2
     go_wp2
     rw [eR.out]
     exact ⟨rfl, ⟨g, rfl, Nat.le_trans szw hgl, hgr⟩, hw⟩
   · obtain rfl : E = 0 := by simpa using hE
     have eR : R = none := by rw [← hR, rdE, if_pos rfl]
     replace eR := hide eR
     clear hR cE
     have RF := setRow_heap _ (w.heap.size + 1) _ #[.int .u64 (n : Int), .slice da dl dc, .slice none 0 0] _ _ R11
     have hwF := below_setRow (g := w.heap.size + 1) hw (by omega) #[.int .u64 (n : Int), .slice da dl dc, .slice none 0 0]
     replace RF := hide RF
     replace hwF := hide hwF
     go_wp2_with (first | (refine wpList_load_want rfl 80 _ rfl (w.heap.size + 1 + 1) rfl 80 #[.int .u64 (n : Int), .slice da dl dc, .slice none 0 0] (0, 0) _ RW1 Tryz.underlying80 rfl infoV ?_) | (refine wpList_store_row rfl 80 _ _ rfl (w.heap.size + 1) #[.int .u64 (n : Int), .slice da dl dc, .slice none 0 0] rfl rfl 80 _ R11 infoV rfl hone ?_) | fail)
     refine bodyPost_ret (v := .agg #[.int .u64 (n : Int), .slice da dl dc, .slice none 0 0]) (results_cell_row Tryz.results108 _ _ (w.heap.size + 1) _ _ _ _ rfl RF.out Tryz.underlying80 rfl infoV) rfl ⟨?_, hwF.out⟩
     rw [eR.out]
     exact ⟨_, rfl, rfl⟩
theorem ent_plain3 (args : Array Value) (W : World) : (callFunc 108 args).run Tryz.prog W = .ok (.enter 108 args) W := by kernel_rfl
theorem wpList_call_up {P : Program} {ops : Array Oper} {rest : List Oper} {o : Oper} {a : Act} {w : World} {Q : Exit → Act → World → Prop} {f : FuncId} {args : Array Value} (base : Nat) (F : Option Flt3) (R : Value → Prop) (B : World → Prop) (hgd : o.guard = none) (hx : (execOp a.eval o).run P w = .ok (.enter f args) w)
   (c : Calls P f args w fun e w' => Gup base F e w' R ∧ B w') (h : F = none → ∀ v w', R v → B w' → wpList P ops Q rest (a.put o.dst v) w')
   (hp : ∀ x, F = some x → ∀ g w', base ≤ g → w'.heap[g]? = some (.cells (frw x) 65 (0, 0)) → B w' → Q (.panic [{ v := .iface 83 (.pointer (some ⟨g, 0, none⟩)), recovered := false }]) a w') : wpList P ops Q (o :: rest) a w :=
 wpList_plain hgd fun _ hK => wp_call_up hx c (fun hF v w' hR hB => hK _ _ (h hF v w' hR hB)) hp
theorem a_slotRead {W : World} {S : Nat → Prop} {t : Slt} {u : Value} {row : Array Value} (h : SlC W S t u row) (hf : Fla t) : ∃ wt k1 k2 k3 a1 a2 a3, row = rdv t.no wt k1 k2 k3 a1 a2 a3 ∧ wt = wtK t ∧ (∀ args W, (callFunc k3 args).run Tryz.prog W = .ok (.enter k3 args) W) ∧
   ∀ (f : Fd) (da : Option Addr) (dl dc : Nat) (at_ : Int) (w : World), dl = f.dat.length → dl < 9223372036854775808 → Below W.heap.size W w → Calls Tryz.prog k3 (#[.agg #[.int .i64 f.no, .int .i64 f.ty, .int .u64 (f.num : Int), .slice da dl dc], .int .i64 at_] ++ a3) w fun e w' => Gup w.heap.size (rdE at_ (ftF t f)) e w' (fun v => v = .agg (vrw f.num (.slice da dl dc) (.slice none 0 0))) ∧ Below w.heap.size w w' := by
 have num : ∀ (wt l m : Int), PlC W S t.no wt 97 #[.int .i64 wt, .int .u64 l, .int .u64 m] row → wtK t = wt → (∀ f : Fd, ftF t f = wth (f.num : Int) l m) → ∃ wt k1 k2 k3 a1 a2 a3, row = rdv t.no wt k1 k2 k3 a1 a2 a3 ∧ wt = wtK t ∧ (∀ args W, (callFunc k3 args).run Tryz.prog W = .ok (.enter k3 args) W) ∧
   ∀ (f : Fd) (da : Option Addr) (dl dc : Nat) (at_ : Int) (w : World), dl = f.dat.length → dl < 9223372036854775808 → Below W.heap.size W w → Calls Tryz.prog k3 (#[.agg #[.int .i64 f.no, .int .i64 f.ty, .int .u64 (f.num : Int), .slice da dl dc], .int .i64 at_] ++ a3) w fun e w' => Gup w.heap.size (rdE at_ (ftF t f)) e w' (fun v => v = .agg (vrw f.num (.slice da dl dc) (.slice none 0 0))) ∧ Below w.heap.size w w' := by
   intro wt l m ⟨g0, g1, g2, g4, gs, e, h0, h1, h2, h4, h5⟩ hwt hE
   refine ⟨wt, _, _, _, _, _, _, e, hwt.symm, ent_plain3, fun f da dl dc at_ w hdl hx hb => ?_⟩
   rw [hE f]
   exact a_plain3 _ (.inl rfl) f.num f.no f.ty da dl dc at_ _ g2 gs w (h2.2.keep hb) (fun V hV => a_fitNum f.num da dl dc none 0 0 wt l m gs V (h5.2.keep (Below.after hb hV)))
 rcases h with ⟨hk, h⟩ | ⟨hk, h⟩ | ⟨hk, h⟩ | ⟨hk, h⟩ | ⟨hk, h⟩ | ⟨hk, h⟩ | ⟨hk, h⟩ | ⟨hk, h⟩
 · exact num 0 _ _ h (by unfold wtK; rw [if_neg (by omega), if_neg (by omega), if_neg (by omega)]) (fun f => by unfold ftF; rw [if_neg (by omega), if_neg (by omega)])
 · exact num 5 _ _ h (by unfold wtK; rw [if_pos hk]) (fun f => by unfold ftF; rw [if_neg (by omega), if_neg (by omega)])
 · exact num 1 _ _ h (by unfold wtK; rw [if_neg (by omega), if_pos hk]) (fun f => by unfold ftF; rw [if_neg (by omega), if_neg (by omega)])
 · exact num 0 _ _ h (by unfold wtK; rw [if_neg (by omega), if_neg (by omega), if_neg (by omega)]) (fun f => by unfold ftF; rw [if_neg (by omega), if_pos hk])
 · have hk5 : t.kind = 5 := by rcases hk with q | q; exact q; rcases hf with q2 | q2 | q2 | q2 | q2 <;> omega
   obtain ⟨g0, g1, g2, g4, gs, e, h0, h1, h2, h4, h5⟩ := h
   refine ⟨2, _, _, _, _, _, _, e, by unfold wtK; rw [if_neg (by omega), if_neg (by omega), if_pos hk5], ent_plain3, fun f da dl dc at_ w hdl hx hb => ?_⟩
   have he : ftF t f = wth (dl : Int) (t.least : Int) (t.most : Int) := by unfold ftF; rw [if_pos hk5, hdl]
   rw [he]
   rw [show (t.kind == 6) = false by rw [hk5]; rfl] at h5
   exact a_plain3 _ (.inr (.inr rfl)) f.num f.no f.ty da dl dc at_ _ g2 gs w (h2.2.keep hb) (fun V hV => a_fitOct f.num da dl dc none 0 0 _ _ hx gs V (h5.2.keep (Below.after hb hV)))
 · exfalso; rcases hf with q2 | q2 | q2 | q2 | q2 <;> omega
 · exfalso; rcases hf with q2 | q2 | q2 | q2 | q2 <;> omega
 · exfalso; rcases hf with q2 | q2 | q2 | q2 | q2 <;> omega
set_option maxRecDepth 100000 in
set_option maxHeartbeats 8000000 in
theorem a_slotDecode (no wt : Int) (k1 k2 k3 : FuncId) (a1 a2 a3 : Array Value) (fno fty : Int) (fnum : Nat) (da : Option Addr) (dl dc : Nat) (at_ : Int) (F : Option Flt3) (w : World)
   (hent : ∀ args W, (callFunc k3 args).run Tryz.prog W = .ok (.enter k3 args) W)
   (hC : ∀ V, Below w.heap.size w V → Calls Tryz.prog k3 (#[.agg #[.int .i64 fno, .int .i64 fty, .int .u64 (fnum : Int), .slice da dl dc], .int .i64 at_] ++ a3) V fun e w' => Gup V.heap.size F e w' (fun v => v = .agg (vrw fnum (.slice da dl dc) (.slice none 0 0))) ∧ Below V.heap.size V w') :
   Calls Tryz.prog 70 #[.agg #[.int .i64 no, .int .i64 wt, .func (.func k1) #[] a1, .func (.func k2) #[] a2, .func (.func k3) #[] a3], .agg #[.int .i64 fno, .int .i64 fty, .int .u64 (fnum : Int), .slice da dl dc], .int .i64 at_] w fun e w' => Gup w.heap.size (if fno ≠ no then some ⟨0, at_, 81⟩ else if fty ≠ wt then some ⟨0, at_, 82⟩ else F) e w' (fun v => v = .agg (vrw fnum (.slice da dl dc) (.slice none 0 0))) ∧ Below w.heap.size w w' := by
 have r0 := hp3_0 w (.cells #[.int .i64 no, .int .i64 wt, .func (.func k1) #[] a1, .func (.func k2) #[] a2, .func (.func k3) #[] a3] 135) (.cells #[.int .i64 fno, .int .i64 fty, .int .u64 (fnum : Int), .slice da dl dc] 60) (.cells #[.int .u64 0, .slice none 0 0, .slice none 0 0] 80)
 have r1 := hp3_1 w (.cells #[.int .i64 no, .int .i64 wt, .func (.func k1) #[] a1, .func (.func k2) #[] a2, .func (.func k3) #[] a3] 135) (.cells #[.int .i64 fno, .int .i64 fty, .int .u64 (fnum : Int), .slice da dl dc] 60) (.cells #[.int .u64 0, .slice none 0 0, .slice none 0 0] 80)
 have r2 := hp3_2 w (.cells #[.int .i64 no, .int .i64 wt, .func (.func k1) #[] a1, .func (.func k2) #[] a2, .func (.func k3) #[] a3] 135) (.cells #[.int .i64 fno, .int .i64 fty, .int .u64 (fnum : Int), .slice da dl dc] 60) (.cells #[.int .u64 0, .slice none 0 0, .slice none 0 0] 80)
 have hb : Below w.heap.size w (((w.alloc (.cells #[.int .i64 no, .int .i64 wt, .func (.func k1) #[] a1, .func (.func k2) #[] a2, .func (.func k3) #[] a3] 135)).alloc (.cells #[.int .i64 fno, .int .i64 fty, .int .u64 (fnum : Int), .slice da dl dc] 60)).alloc (.cells #[.int .u64 0, .slice none 0 0, .slice none 0 0] 80)) := (((Below.refl _ _).alloc (Nat.le_refl _) _).alloc (by simp) _).alloc (by simp; omega) _
 obtain ⟨R, hR⟩ : ∃ R, (if fno ≠ no then some ⟨0, at_, 81⟩ else if fty ≠ wt then some ⟨0, at_, 82⟩ else F) = R := ⟨_, rfl⟩
 rw [hR]
 have cC := hC _ hb
 unfold vrw at cC ⊢
 replace hb := hide hb
 replace cC := hide cC
 clear hC
 have hone : (#[.int .u64 (fnum : Int), .slice da dl dc, .slice none 0 0] : Array Value).all (·.oneCell') = true := by simp [Value.oneCell']
 go_enter Tryz.func70, Tryz.ntmps70
 go_upto_region 1 with (fail)
 generalize (((w.alloc (.cells #[.int .i64 no, .int .i64 wt, .func (.func k1) #[] a1, .func (.func k2) #[] a2, .func (.func k3) #[] a3] 135)).alloc (.cells #[.int .i64 fno, .int .i64 fty, .int .u64 (fnum : Int), .slice da dl dc] 60)).alloc (.cells #[.int .u64 0, .slice none 0 0, .slice none 0 0] 80)) = W3 at *
 have s0 := cell_of_row _ _ 0 _ _ _ r0
 have s1 := cell_of_row _ _ 1 _ _ _ r0
 have s4 := cell_of_row _ _ 4 _ _ _ r0
 have f0 := cell_of_row _ _ 0 _ _ _ r1
 have f1 := cell_of_row _ _ 1 _ _ _ r1
 by_cases hno : fno = no
 · subst hno
   by_cases hty : fty = wt
   · subst hty
     have eR : F = R := by rw [← hR, if_neg (by simp), if_neg (by simp)]
     replace eR := hide eR
     clear hR
     replace r2 := hide r2
     go_upto_region 5 with (fail)
     clear s0 s1 f0 f1
     repeat ((fail_if_success (refine wpList_load_want rfl 60 _ rfl (w.heap.size + 1) rfl 60 #[.int .i64 fno, .int .i64 fty, .int .u64 (fnum : Int), .slice da dl dc] (0, 0) _ r1 Tryz.underlying60 rfl infoFi ?_)); first | go_skip | go_step)
     refine wpList_load_want rfl 60 _ rfl (w.heap.size + 1) rfl 60 #[.int .i64 fno, .int .i64 fty, .int .u64 (fnum : Int), .slice da dl dc] (0, 0) _ r1 Tryz.underlying60 rfl infoFi ?_
     try simp only [Act.put, List.setIfInBounds_toArray, List.set_cons_succ, List.set_cons_zero]
     repeat ((fail_if_success (refine wpList_call_up W3.heap.size F (fun v => v = .agg #[.int .u64 (fnum : Int), .slice da dl dc, .slice none 0 0]) (fun w' => Below W3.heap.size W3 w') rfl (run_call_val (.tmp 22) #[.tmp 23, .tmp 24] #[60, 3] rfl rfl _ (by simp only [List.map_toArray, List.map_cons, List.map_nil]; rfl) hent) cC.out ?_ ?_)); first | go_skip | go_step)
     refine wpList_call_up W3.heap.size F (fun v => v = .agg #[.int .u64 (fnum : Int), .slice da dl dc, .slice none 0 0]) (fun w' => Below W3.heap.size W3 w') rfl (run_call_val (.tmp 22) #[.tmp 23, .tmp 24] #[60, 3] rfl rfl _ (by simp only [List.map_toArray, List.map_cons, List.map_nil]; rfl) hent) cC.out ?_ ?_
     · intro hF v_ w4 hv hb4
       subst hv
       subst hF
       have R4 := keep hb4 r2.out
       have hw4 := Below.after hb.out hb4
       have RF := hide (setRow_heap _ (w.heap.size + 1 + 1) _ #[.int .u64 (fnum : Int), .slice da dl dc, .slice none 0 0] _ _ R4)
       have hwF := hide (below_setRow (g := w.heap.size + 1 + 1) hw4 (by omega) #[.int .u64 (fnum : Int), .slice da dl dc, .slice none 0 0])
       clear r1 r0 r2 hb cC hb4 hw4 s4
       try simp only [Act.put, List.setIfInBounds_toArray, List.set_cons_succ, List.set_cons_zero]
       go_wp2_with (first | (refine wpList_store_row rfl 80 _ _ rfl (w.heap.size + 1 + 1) #[.int .u64 (fnum : Int), .slice da dl dc, .slice none 0 0] rfl rfl 80 _ R4 infoV rfl hone ?_) | fail)
       refine bodyPost_ret (v := .agg #[.int .u64 (fnum : Int), .slice da dl dc, .slice none 0 0]) (results_cell_row Tryz.results70 _ _ (w.heap.size + 1 + 1) _ _ _ _ rfl RF.out Tryz.underlying80 rfl infoV) rfl ⟨?_, hwF.out⟩
       rw [← eR.out]
       exact ⟨_, rfl, rfl⟩
     · intro x hF g w4 h1 h2 hb4
       subst hF
       have szw := hb.out.size
       have hw4 := Below.after hb.out hb4
       go_wp2_with (fail)
       rw [← eR.out]
       exact ⟨rfl, ⟨g, rfl, by omega, h2⟩, hw4⟩
   · have eR : R = some ⟨0, at_, 82⟩ := by rw [← hR, if_neg (by simp), if_pos hty]
     have hd : (fty == wt) = false := by simpa using hty
     replace eR := hide eR
     clear hR cC r0 r1 r2
     go_wp2_with (fail)
     refine (a_giveUp 0 at_ 82 _).mono ?_
     rintro e_ w2 ⟨hg, hb2⟩
     obtain ⟨g, rfl, hgl, hgr⟩ := hg
     have szw := hb.out.size
     have hw := Below.after hb.out hb2
     clear hb
     go_wp2
     rw [eR.out]
     exact ⟨rfl, ⟨g, rfl, Nat.le_trans szw hgl, hgr⟩, hw⟩
 · have eR : R = some ⟨0, at_, 81⟩ := by rw [← hR, if_pos hno]
   have hd : (fno == no) = false := by simpa using hno
   replace eR := hide eR
   clear hR cC r0 r1 r2
   go_wp2_with (fail)
   refine (a_giveUp 0 at_ 81 _).mono ?_
   rintro e_ w2 ⟨hg, hb2⟩
   obtain ⟨g, rfl, hgl, hgr⟩ := hg
   have szw := hb.out.size
   have hw := Below.after hb.out hb2
   clear hb
   go_wp2
   rw [eR.out]
   exact ⟨rfl, ⟨g, rfl, Nat.le_trans szw hgl, hgr⟩, hw⟩
end Go.Proofs.YtleeadbceljfbaaGreatDoor
namespace Go.Proofs.YtleeadbceljfbaaGreatDoor
set_option maxRecDepth 100000
open Go Go.RowKit Go.Sort
attribute [local go_sem] setCell_drewN alloc_drewN
section
variable {P : Program} {ops : Array Oper} {Q : Exit → Act → World → Prop} {md : Region.Mode} {S : World → Prop}
end
theorem a_sizeX (n : Nat) (hn : n < 18446744073709551616) (w : World) : Calls Tryz.prog 45 #[.int .u64 (n : Int)] w fun e w' => ∃ u, e = .returned u ∧ u = .int .i64 ((en n).length : Int) ∧ Below w.heap.size w w' := (a_size n hn w).mono fun _ _ h => ⟨_, h.1, rfl, h.2⟩
set_option maxRecDepth 100000 in
set_option maxHeartbeats 8000000 in
theorem a_endOf (f : Fd) (ao : Option Addr) (cap : Nat) (at_ : Int) (hat : 0 ≤ at_ ∧ at_ ≤ 4611686018427387904) (hf : Fok f) (h0 : 0 ≤ f.no) (h1 : f.no ≤ 536870911) (hk : known f.ty) (w : World) : Calls Tryz.prog 71 #[.agg #[.int .i64 f.no, .int .i64 f.ty, .int .u64 (f.num : Int), .slice ao f.dat.length cap], .int .i64 at_] w fun e w' => ∃ u, e = .returned u ∧ u = .int .i64 (at_ + ((fby f).length : Int)) ∧ Below w.heap.size w w' := by
 have ht := known_lt hk
 obtain ⟨N, hN⟩ := Int.eq_ofNat_of_zero_le h0
 obtain ⟨hf1, hf2, _, _⟩ := hf
 have hH : (en (fhd f)).length = (en (8 * N)).length := by
   have e : fhd f = 8 * N + f.ty.toNat := by unfold fhd; rw [hN]; rfl
   rw [e]
   exact en_head N _ (by omega)
 have cH := s_headOf N (by omega)
 have cS := a_size (8 * N) (by omega)
 have cN := a_size f.num hf1
 have cD := a_sizeX f.dat.length (by omega)
 have hten := en_ten (n := 8 * N) (by omega)
 have hten2 := en_ten hf1
 have hten3 := en_ten (n := f.dat.length) (by omega)
 have hl : (fby f).length = (en (8 * N)).length + (fvl f).length := by rw [fby, List.length_append, hH]
 have hvl : fvl f = if f.ty = 0 then en f.num else if f.ty = 1 then fx 8 f.num else if f.ty = 5 then fx 4 f.num else itm f.dat := rfl
 have hL0 : f.ty = 0 → (fby f).length = (en (8 * N)).length + (en f.num).length := fun t => by rw [hl, hvl, if_pos t]
 have hL1 : f.ty = 1 → (fby f).length = (en (8 * N)).length + 8 := fun t => by rw [hl, hvl, if_neg (by omega), if_pos t, fx_len]
 have hL5 : f.ty = 5 → (fby f).length = (en (8 * N)).length + 4 := fun t => by rw [hl, hvl, if_neg (by omega), if_neg (by omega), if_pos t, fx_len]
 have hL2 : f.ty = 2 → (fby f).length = (en (8 * N)).length + (en f.dat.length).length + f.dat.length := fun t => by rw [hl, hvl, if_neg (by omega), if_neg (by omega), if_neg (by omega), itm_len]; omega
 unfold known at hk
 generalize (fby f).length = L at *
 clear hvl hl hH
 generalize hfn : f.no = fno at *
 generalize f.ty = fty at *
 generalize f.num = num at *
 generalize f.dat.length = dl at *
 generalize (en (8 * N)).length = H at *
 generalize (en dl).length = DL at *
 generalize (en num).length = NL at *
 replace hN := hide hN
 clear hfn f
 have R0 := hp1_0 w (.cells #[.int .i64 fno, .int .i64 fty, .int .u64 (num : Int), .slice ao dl cap] 60)
 have hw : Below w.heap.size w (w.alloc (.cells #[.int .i64 fno, .int .i64 fty, .int .u64 (num : Int), .slice ao dl cap] 60)) := (Below.refl _ _).alloc (Nat.le_refl _) _
 go_enter Tryz.func71, Tryz.ntmps71
 go_upto_region 1 with (fail)
 generalize w.alloc (.cells #[.int .i64 fno, .int .i64 fty, .int .u64 (num : Int), .slice ao dl cap] 60) = w1 at *
 have c0 := cell_of_row _ _ 0 _ _ _ R0
 have cH1 := cH w1
 rw [← hN.out] at cH1
 replace cH1 := hide cH1
 clear cH
 go_wp2_with (fail)
 refine cH1.out.mono ?_
 rintro e_ w2 ⟨rfl, hb_⟩
 replace R0 := keep hb_ R0
 replace hw := Below.after hw hb_
 clear hb_ c0 cH1
 have cS2 := hide (cS w2)
 clear cS
 go_wp2_with (fail)
 refine cS2.out.mono ?_
 rintro e_ w3 ⟨rfl, hb_⟩
 replace R0 := keep hb_ R0
 replace hw := Below.after hw hb_
 clear hb_ cS2
 rcases hk with t | t | t | t
 · have e := hide (hL0 t)
   subst t
   have cN3 := hide (cN w3)
   have c1 := cell_of_row _ _ 1 _ _ _ R0
   have c2 := cell_of_row _ _ 2 _ _ _ R0
   clear hL0 hL1 hL2 hL5 cN cD
   go_wp2_with (fail)
   refine cN3.out.mono ?_
   rintro e_ w4 ⟨rfl, hb_⟩
   replace hw := Below.after hw hb_
   clear hb_ cN3
   go_wp2_with (fail)
   go_ret
   exact ⟨_, rfl, by rw [e.out]; go_num, hw⟩
 · have e := hide (hL1 t)
   subst t
   have c1 := cell_of_row _ _ 1 _ _ _ R0
   clear hL0 hL1 hL2 hL5 cN cD
   go_wp2_with (fail)
   go_ret
   exact ⟨_, rfl, by rw [e.out]; go_num, hw⟩
 · have e := hide (hL2 t)
   subst t
   have c1 := cell_of_row _ _ 1 _ _ _ R0
   clear hL0 hL1 hL2 hL5 cN
   go_upto_region 8 with (fail)
   clear c1
   have hbd : Below w3.heap.size w3 w3.drew := below_drN (Below.refl _ _) 1
   replace R0 := keep hbd R0
   replace hw := Below.after hw hbd
   clear hbd
   have q0 : IntKind.wrap .u64 (dl : Int) = (dl : Int) := by show (dl : Int) % 18446744073709551616 = dl; omega
   have q1 : IntKind.wrap .i64 (at_ + (H : Int) + (DL : Int)) = at_ + (H : Int) + (DL : Int) := by rw [IntKind.wrap_i64]; omega
   have q2 : IntKind.wrap .i64 (at_ + (H : Int) + (DL : Int) + (dl : Int)) = at_ + (H : Int) + (DL : Int) + (dl : Int) := by rw [IntKind.wrap_i64]; omega
   refine wp_region_noPanic ?_
   refine wp_region_held (S := fun W => W.heap[w.heap.size]? = some (.cells #[.int .i64 fno, .int .i64 2, .int .u64 (num : Int), .slice ao dl cap] 60 (0, 0))) (by kernel_rfl) ?_
   change wpAnyH _ _ _ _ _ _ _ _ (World.drew _)
   generalize w3.drew = y1 at *
   refine wpAnyH_take (i := 0) (v := ?v1) rfl (by kernel_rfl) (by kernel_rfl) (by kernel_rfl) (fun _ _ _ h => h) (Or.inl ⟨by rfl, ?y1⟩) R0 ?r1
   case y1 =>
     intro w_ hS_
     go_simp
     try with_reducible rfl
   simp only [Act.put, List.getElem_toArray, List.getElem_cons_zero, List.setIfInBounds_toArray, List.set_cons_succ, List.set_cons_zero]
   refine wpAnyH_take (i := 1) (v := ?v2) rfl (by kernel_rfl) (by kernel_rfl) (by kernel_rfl) (fun _ _ _ h => h) (Or.inl ⟨by rfl, ?y2⟩) R0 ?r2
   case y2 =>
     intro w_ hS_
     go_simp
     try with_reducible rfl
   simp only [Act.put, List.getElem_toArray, List.getElem_cons_succ, List.getElem_cons_zero, List.setIfInBounds_toArray, List.set_cons_succ, List.set_cons_zero]
   refine wpAnyH_take (i := 2) (v := .slice ao dl cap) rfl (by kernel_rfl) (by kernel_rfl) (by kernel_rfl) (fun _ _ _ h => h) (Or.inl ⟨by rfl, ?y3⟩) R0 ?r3
   case y3 =>
     intro w_ hS_
     have c_ := cell_of_row _ _ 3 _ _ _ hS_
     go_simp
     try with_reducible rfl
   simp only [Act.put, List.getElem_toArray, List.getElem_cons_succ, List.getElem_cons_zero, List.setIfInBounds_toArray, List.set_cons_succ, List.set_cons_zero]
   refine wpAnyH_take (i := 3) (v := ?v4) rfl (by kernel_rfl) (by kernel_rfl) (by kernel_rfl) (fun _ _ _ h => h) (Or.inl ⟨by rfl, ?y4⟩) R0 ?r4
   case y4 =>
     intro w_ hS_
     go_simp
     try with_reducible rfl
   simp only [Act.put, List.getElem_toArray, List.getElem_cons_succ, List.getElem_cons_zero, List.setIfInBounds_toArray, List.set_cons_succ, List.set_cons_zero]
   refine wpAnyH_take (i := 4) (v := .int .u64 (dl : Int)) rfl (by kernel_rfl) (by kernel_rfl) (by kernel_rfl) (fun _ _ _ h => h) (Or.inl ⟨by rfl, ?y5⟩) R0 ?r5
   case y5 =>
     intro w_ hS_
     go_simp
     try with_reducible rfl
   simp only [Act.put, List.getElem_toArray, List.getElem_cons_succ, List.getElem_cons_zero, List.setIfInBounds_toArray, List.set_cons_succ, List.set_cons_zero]
   refine wpAnyH_take (i := 7) (v := ?v6) rfl (by kernel_rfl) (by kernel_rfl) (by kernel_rfl) (fun _ _ _ h => h) (Or.inl ⟨by rfl, ?y6⟩) R0 ?r6
   case y6 =>
     intro w_ hS_
     go_simp
     try with_reducible rfl
   simp only [Act.put, List.getElem_toArray, List.getElem_cons_succ, List.getElem_cons_zero, List.setIfInBounds_toArray, List.set_cons_succ, List.set_cons_zero]
   refine wpAnyH_take (i := 8) (v := .slice ao dl cap) rfl (by kernel_rfl) (by kernel_rfl) (by kernel_rfl) (fun _ _ _ h => h) (Or.inl ⟨by rfl, ?y7⟩) R0 ?r7
   case y7 =>
     intro w_ hS_
     have c_ := cell_of_row _ _ 3 _ _ _ hS_
     go_simp
     try with_reducible rfl
   simp only [Act.put, List.getElem_toArray, List.getElem_cons_succ, List.getElem_cons_zero, List.setIfInBounds_toArray, List.set_cons_succ, List.set_cons_zero]
   refine wpAnyH_take (i := 9) (v := ?v8) rfl (by kernel_rfl) (by kernel_rfl) (by kernel_rfl) (fun _ _ _ h => h) (Or.inl ⟨by rfl, ?y8⟩) R0 ?r8
   case y8 =>
     intro w_ hS_
     go_simp
     try with_reducible rfl
   simp only [Act.put, List.getElem_toArray, List.getElem_cons_succ, List.getElem_cons_zero, List.setIfInBounds_toArray, List.set_cons_succ, List.set_cons_zero]
   refine wpAnyH_one (k := 5) (fuel := 3) (by kernel_rfl) rfl (by kernel_rfl) (fun K_ hK => ?_)
   refine wp_call_ex (f := 45) (by kernel_rfl) (cD y1) (fun v_ y2 hX_ => ?_)
   obtain ⟨rfl, hb_⟩ := hX_
   replace R0 := keep hb_ R0
   replace hw := Below.after hw hb_
   clear hb_
   refine hK _ _ R0 ?_
   simp only [Act.put, List.getElem_toArray, List.getElem_cons_succ, List.getElem_cons_zero, List.setIfInBounds_toArray, List.set_cons_succ, List.set_cons_zero]
   clear hK
   refine wpAnyH_take (i := 6) (v := .int .i64 (at_ + (H : Int) + (DL : Int))) rfl (by kernel_rfl) (by kernel_rfl) (by kernel_rfl) (fun _ _ _ h => h) (Or.inl ⟨by rfl, ?y9⟩) R0 ?r9
   case y9 =>
     intro w_ hS_
     go_simp
     try with_reducible rfl
   simp only [Act.put, List.getElem_toArray, List.getElem_cons_succ, List.getElem_cons_zero, List.setIfInBounds_toArray, List.set_cons_succ, List.set_cons_zero]
   refine wpAnyH_take (i := 10) (v := .int .i64 (at_ + (H : Int) + (DL : Int) + (dl : Int))) rfl (by kernel_rfl) (by kernel_rfl) (by kernel_rfl) (fun _ _ _ h => h) (Or.inl ⟨by rfl, ?y10⟩) R0 ?r10
   case y10 =>
     intro w_ hS_
     go_simp
     try with_reducible rfl
   simp only [Act.put, List.getElem_toArray, List.getElem_cons_succ, List.getElem_cons_zero, List.setIfInBounds_toArray, List.set_cons_succ, List.set_cons_zero]
   refine wpAnyH_take (i := 11) (v := ?v11) rfl (by kernel_rfl) (by kernel_rfl) (by kernel_rfl) (fun _ _ _ h => h) (Or.inl ⟨by rfl, ?y11⟩) R0 ?r11
   case y11 =>
     intro w_ hS_
     go_simp
     try with_reducible rfl
   simp only [Act.put, List.getElem_toArray, List.getElem_cons_succ, List.getElem_cons_zero, List.setIfInBounds_toArray, List.set_cons_succ, List.set_cons_zero]
   refine wpAnyH_done (by kernel_rfl) ?_ _
   refine NoPanic.normal ?_
   go_wp2_with (fail)
   go_ret
   exact ⟨_, rfl, by rw [e.out]; show Value.int .i64 (at_ + (H : Int) + (DL : Int) + (dl : Int)) = _; congr 1; omega, hw⟩
 · have e := hide (hL5 t)
   subst t
   have c1 := cell_of_row _ _ 1 _ _ _ R0
   clear hL0 hL1 hL2 hL5 cN cD
   go_wp2_with (fail)
   go_ret
   exact ⟨_, rfl, by rw [e.out]; go_num, hw⟩
end Go.Proofs.YtleeadbceljfbaaGreatDoor
