import Derived.Test.YtmmlkfkpblokiaaGreatDoorQeXdb
import Derived.Test.YtmmlkfkpblokiaaGreatDoorQeWr
import Derived.Test.YtmmlkfkpblokiaaGreatDoorQeIrb
import Derived.OwnWalk
import Derived.Deep.Cut
import Derived.Deep.RegionHeld3
namespace Go.Proofs.YtmmlkfkpblokiaaGreatDoor
set_option maxRecDepth 100000
open Go Go.RowKit Go.Sort
attribute [local go_sem] setCell_drewN alloc_drewN
/-! A message's bytes, on trees. -/
def wtA (k : Int) : Int := if k = 2 then 5 else if k = 3 ∨ k = 7 then 1 else if k = 1 ∨ k = 4 then 0 else 2
def fdN (no k : Int) (enc : VT → List B) (x : VT) : Fd := ⟨no, wtA k, if k = 8 ∨ k = 9 then 0 else x.num, if k = 8 then enc x else if k = 9 then jout (x.parts.map enc) else x.dat⟩
def fdT : List Slt → List VT → List Fd
 | .mk no k _ _ sub :: ts, x :: xs => fdN no k (fun y => eout (fdT sub y.parts)) x :: fdT ts xs
 | _, _ => []
def enT (ts : List Slt) (x : VT) : List B := eout (fdT ts x.parts)
def fdS (t : Slt) (x : VT) : Fd := fdN t.no t.kind (enT t.sub) x
theorem fdT_cons (t : Slt) (ts : List Slt) (x : VT) (xs : List VT) : fdT (t :: ts) (x :: xs) = fdS t x :: fdT ts xs := by
 cases t
 rw [fdT]
 rfl
theorem fdT_nil (xs : List VT) : fdT [] xs = [] := by rw [fdT]; intros; contradiction
theorem fdT_len : ∀ (ts : List Slt) (xs : List VT), ts.length = xs.length → (fdT ts xs).length = ts.length
 | [], [], _ => by rw [fdT_nil]; rfl
 | t :: ts, x :: xs, h => by rw [fdT_cons, List.length_cons, List.length_cons, fdT_len ts xs (by simpa using h)]
 | [], _ :: _, h => by simp at h
 | _ :: _, [], h => by simp at h
theorem fdT_at : ∀ (ts : List Slt) (xs : List VT) (i : Nat), ts.length = xs.length → i < ts.length → gf (fdT ts xs) i = fdS (gs ts i) (gvt xs i)
 | [], _, _, _, h => by simp at h
 | _ :: _, [], _, h, _ => by simp at h
 | t :: ts, x :: xs, 0, _, _ => by rw [fdT_cons]; rfl
 | t :: ts, x :: xs, i + 1, h, hi => by
  rw [fdT_cons]
  show gf (fdT ts xs) i = _
  rw [fdT_at ts xs i (by simpa using h) (by simpa using hi)]
  rfl
theorem fdT_take : ∀ (ts : List Slt) (xs : List VT) (k : Nat), ts.length = xs.length → k < ts.length → fdT (ts.take (k + 1)) (xs.take (k + 1)) = fdT (ts.take k) (xs.take k) ++ [fdS (gs ts k) (gvt xs k)]
 | [], _, _, _, h => by simp at h
 | _ :: _, [], _, h, _ => by simp at h
 | t :: ts, x :: xs, 0, _, _ => by
  rw [List.take_succ_cons, List.take_succ_cons, List.take_zero, List.take_zero, fdT_cons]
  have : ∀ ys, fdT [] ys = [] := fun ys => by rw [fdT]; intros; contradiction
  rw [List.take_zero, List.take_zero, this]
  rfl
 | t :: ts, x :: xs, k + 1, h, hk => by
  rw [List.take_succ_cons, List.take_succ_cons, fdT_cons, fdT_take ts xs k (by simpa using h) (by simpa using hk), List.take_succ_cons, List.take_succ_cons, fdT_cons]
  rfl
def wfT : List Slt → List VT → Prop
 | .mk _ k _ _ sub :: ts, x :: xs => (k = 8 → x.parts.length = sub.length ∧ wfT sub x.parts) ∧ (k = 9 → ∀ p ∈ x.parts, p.parts.length = sub.length ∧ wfT sub p.parts) ∧ wfT ts xs
 | _, _ => True
theorem wfT_cons (t : Slt) (ts : List Slt) (x : VT) (xs : List VT) : wfT (t :: ts) (x :: xs) ↔ (t.kind = 8 → x.parts.length = t.sub.length ∧ wfT t.sub x.parts) ∧ (t.kind = 9 → ∀ p ∈ x.parts, p.parts.length = t.sub.length ∧ wfT t.sub p.parts) ∧ wfT ts xs := by
 cases t
 rw [wfT]
 rfl
theorem wfT_at : ∀ (ts : List Slt) (xs : List VT) (i : Nat), ts.length = xs.length → i < ts.length → wfT ts xs → ((gs ts i).kind = 8 → (gvt xs i).parts.length = (gs ts i).sub.length ∧ wfT (gs ts i).sub (gvt xs i).parts) ∧ ((gs ts i).kind = 9 → ∀ p ∈ (gvt xs i).parts, p.parts.length = (gs ts i).sub.length ∧ wfT (gs ts i).sub p.parts)
 | [], _, _, _, h, _ => by simp at h
 | _ :: _, [], _, h, _, _ => by simp at h
 | t :: ts, x :: xs, 0, _, _, hw => by
  rw [wfT_cons] at hw
  exact ⟨hw.1, hw.2.1⟩
 | t :: ts, x :: xs, i + 1, h, hi, hw => by
  rw [wfT_cons] at hw
  exact wfT_at ts xs i (by simpa using h) (by simpa using hi) hw.2.2
theorem eout_len (fs : List Fd) : (eout fs).length ≤ 4194304 := by
 unfold eout
 split
 ·rename_i h
  unfold eer at h
  split at h
  ·cases h
  ·split at h
   ·omega
   ·split at h
    ·cases h
    ·omega
 ·simp
theorem jout_len (ps : List (List B)) : (jout ps).length ≤ 4194304 := by
 unfold jout
 split
 ·simp
 ·rename_i h
  unfold jbad at h
  omega
def FtW (W : World) (base : Nat) (v : Value) (us : List Value) (fs : List Fd) : Prop :=
 W.ownsRow base 118 4 v fs.length (frs fs us) ∧ us.length = fs.length ∧ ∀ i, i < us.length → BysB W (gv us i) (gf fs i).dat ∧ Fok (gf fs i) ∧ ∃ da dl dc, gv us i = .slice da dl dc ∧ ∀ a, lv dl da = some a → a.block < W.heap.size ∧ v.ownBlock ≠ some a.block
theorem bysB_move {W V : World} {da : Option Addr} {dl dc : Nat} {bs : List B} (h : BysB W (.slice da dl dc) bs) (hz : W.heap.size ≤ V.heap.size) (hk : ∀ a, lv dl da = some a → V.heap[a.block]? = W.heap[a.block]?) : BysB V (.slice da dl dc) bs := by
 obtain ⟨⟨ao, cap, e, hl, hc, hz2⟩, h2⟩ := h
 refine ⟨⟨ao, cap, e, hl, fun j hj => ?_, hz2⟩, h2⟩
 obtain ⟨b, off, e2, hb, hcell⟩ := hc j hj
 injection e with e3 e4 e5
 subst e3
 refine ⟨b, off, e2, Nat.lt_of_lt_of_le hb hz, ?_⟩
 rw [← hcell]
 have := hk _ ((lv_pos (by omega)).trans e2)
 show V.cell? ⟨b, off + j, none⟩ = W.cell? ⟨b, off + j, none⟩
 simp only [World.cell?, this]
theorem FtW.keep {W V : World} {b : Nat} {v : Value} {us : List Value} {fs : List Fd} (h : FtW W b v us fs) (hb : Below W.heap.size W V) : FtW V b v us fs := by
 refine ⟨own_keep_row h.1 hb, h.2.1, fun i hi => ?_⟩
 obtain ⟨h1, h2, da, dl, dc, e, h3⟩ := h.2.2 i hi
 exact ⟨h1.keep hb, h2, da, dl, dc, e, fun a ea => ⟨Nat.lt_of_lt_of_le (h3 a ea).1 hb.size, (h3 a ea).2⟩⟩
theorem ftw_nil (W : World) (b : Nat) : FtW W b (.slice none 0 0) [] [] := ⟨⟨rfl, .inl ⟨rfl, rfl⟩⟩, rfl, fun i hi => by simp at hi⟩
theorem FtW.snoc {W W' : World} {b : Nat} {v v' : Value} {us : List Value} {fs : List Fd} {da : Option Addr} {dl dc : Nat} {f : Fd} (h : FtW W b v us fs) (hu : BysB W (.slice da dl dc) f.dat) (hf : Fok f) (hd : ∀ a, lv dl da = some a → a.block < W.heap.size ∧ v.ownBlock ≠ some a.block)
 (ho : W'.ownsRow b 118 4 v' (fs.length + 1) (frs fs us ++ frow f (.slice da dl dc))) (hg : W.grownBy W' v.ownBlock) (hk : Nx W v v') : FtW W' b v' (us ++ [.slice da dl dc]) (fs ++ [f]) := by
 have ne : ∀ a : Addr, a.block < W.heap.size → v.ownBlock ≠ some a.block → v'.ownBlock ≠ some a.block := fun a h1 h2 e => by
  rcases hk with q | ⟨k, q, q2⟩
  ·exact h2 (q.symm.trans e)
  ·rw [q] at e
   injection e with e
   omega
 have mv : ∀ {da : Option Addr} {dl dc : Nat} {bs : List B}, BysB W (.slice da dl dc) bs → (∀ a, lv dl da = some a → a.block < W.heap.size ∧ v.ownBlock ≠ some a.block) → BysB W' (.slice da dl dc) bs := fun hB hq => bysB_move hB hg.size (fun a e => hg.block a.block (hq a e).1 (fun e2 => (hq a e).2 e2.symm))
 refine ⟨by rw [List.length_append, List.length_singleton, frs_snoc fs us f _ h.2.1]; exact ho, by rw [List.length_append, List.length_append, h.2.1]; rfl, fun i hi => ?_⟩
 rw [List.length_append, List.length_singleton] at hi
 have h21 := h.2.1
 rcases Nat.lt_or_ge i us.length with q | q
 ·rw [gv_app_lo q, gf_app_lo (by omega)]
  obtain ⟨h1, h2, da', dl', dc', e, h3⟩ := h.2.2 i q
  rw [e] at h1 ⊢
  exact ⟨mv h1 h3, h2, da', dl', dc', rfl, fun a ea => ⟨Nat.lt_of_lt_of_le (h3 a ea).1 hg.size, ne a (h3 a ea).1 (h3 a ea).2⟩⟩
 ·obtain rfl : i = us.length := by omega
  rw [gv_app_hi, h21, gf_app_hi]
  exact ⟨mv hu hd, hf, da, dl, dc, rfl, fun a ea => ⟨Nat.lt_of_lt_of_le (hd a ea).1 hg.size, ne a (hd a ea).1 (hd a ea).2⟩⟩
theorem FtW.fds {W : World} {b : Nat} {v : Value} {us : List Value} {fs : List Fd} (h : FtW W b v us fs) (hl : fs.length ≤ 2932031007317) : Fds W v fs := by
 obtain ⟨h1, h2, h3⟩ := h
 have h1' := h1
 obtain ⟨_, ⟨rfl, h0⟩ | ⟨g, cap, cur, rfl, hb, hg, hn, hm, hs, ht⟩⟩ := h1'
 ·refine ⟨none, 0, by rw [h0], hl, by omega, fun _ => rfl, fun i hi => ?_⟩
  omega
 ·refine ⟨some ⟨g, 0, none⟩, cap, rfl, hl, hn, (fun e => by cases e), fun i hi => ⟨g, 0, gv us i, rfl, lt_of_row hg, fun j x hx => ?_, (h3 i (by omega)).1, (h3 i (by omega)).2.1⟩⟩
  have hj : j < 4 := by have := (List.getElem?_eq_some_iff.1 hx).1; exact this
  have := h1.cells (g := g) rfl (i * 4 + j) x (by rw [frs_at fs us i j h2 hi hj]; exact hx)
  rw [addr_add, ← Nat.add_assoc] at this
  exact this
theorem own_told {W : World} {b : Nat} {u : Value} {d : List B} (h : Own W b u d) (hl : d.length ≤ 4194304) : ∃ da dc, u = .slice da d.length dc ∧ BysB W (.slice da d.length dc) d ∧ ∀ a, da = some a → a.block < W.heap.size ∧ b ≤ a.block := by
 have hB := h.bysB (by omega)
 have h' := h
 obtain ⟨_, ⟨rfl, h0⟩ | ⟨g, cap, cur, rfl, hb, hg, _⟩⟩ := h'
 ·refine ⟨none, 0, by rw [h0], by rw [h0]; exact hB, fun a e => by cases e⟩
 ·refine ⟨some ⟨g, 0, none⟩, cap, rfl, hB, fun a e => ?_⟩
  cases e
  exact ⟨lt_of_row hg, hb⟩
def WrR (w : World) (L : Nat) (f : Fd) (e : Ending) (w' : World) : Prop := ∃ da dl dc, e = .returned (.agg #[.int .i64 f.no, .int .i64 f.ty, .int .u64 (f.num : Int), .slice da dl dc]) ∧ BysB w' (.slice da dl dc) f.dat ∧ Fok f ∧ (∀ a, lv dl da = some a → a.block < w'.heap.size ∧ (a.block < L ∨ w.heap.size ≤ a.block)) ∧ Below w.heap.size w w'
end Go.Proofs.YtmmlkfkpblokiaaGreatDoor
namespace Go.Proofs.YtmmlkfkpblokiaaGreatDoor
set_option maxRecDepth 100000
open Go Go.RowKit Go.Sort
attribute [local go_sem] setCell_drewN alloc_drewN
set_option maxRecDepth 100000 in
set_option maxHeartbeats 8000000 in
theorem a_inner2 (no : Int) (hno : -9223372036854775808 ≤ no ∧ no ≤ 9223372036854775807) (x : VR) (g0 g1 : Nat) (so : Option Addr) (sn sc : Nat) (w : World) (L : Nat) (bs : List B) (hbs : bs.length ≤ 4194304) (h0 : Bx w g0 #[.int .i64 no]) (h1 : Bx w g1 #[.slice so sn sc])
 (hC : ∀ V, Below w.heap.size w V → Calls Tryz.prog 35 #[.slice so sn sc, .agg (vrv x)] V fun e w' => ∃ u, e = .returned u ∧ Own w' V.heap.size u bs ∧ Below V.heap.size V w') :
 Calls Tryz.prog 124 #[.agg (vrv x), ptr g0, ptr g1] w (WrR w L ⟨no, 2, 0, bs⟩) := by
 obtain ⟨xn, xda, xdl, xdc, xpa, xpl, xpc⟩ := x
 unfold vrv vrw at *
 have r0 := hp2_0 w (.cells #[.int .u64 (xn : Int), .slice xda xdl xdc, .slice xpa xpl xpc] 27) (.cells #[.int .i64 0, .int .i64 0, .int .u64 0, .slice none 0 0] 118)
 have r1 := hp2_1 w (.cells #[.int .u64 (xn : Int), .slice xda xdl xdc, .slice xpa xpl xpc] 27) (.cells #[.int .i64 0, .int .i64 0, .int .u64 0, .slice none 0 0] 118)
 have hb : Below w.heap.size w ((w.alloc (.cells #[.int .u64 (xn : Int), .slice xda xdl xdc, .slice xpa xpl xpc] 27)).alloc (.cells #[.int .i64 0, .int .i64 0, .int .u64 0, .slice none 0 0] 118)) := ((Below.refl _ _).alloc (Nat.le_refl _) _).alloc (by simp) _
 have hb0 := h0.keep hb
 have hb1 := h1.keep hb
 unfold ptr
 go_enter Tryz.func124, Tryz.ntmps124
 iterate 9 go_step
 have hz : w.heap.size + 1 < ((w.alloc (.cells #[.int .u64 (xn : Int), .slice xda xdl xdc, .slice xpa xpl xpc] 27)).alloc (.cells #[.int .i64 0, .int .i64 0, .int .u64 0, .slice none 0 0] 118)).heap.size := by simp
 generalize (w.alloc (.cells #[.int .u64 (xn : Int), .slice xda xdl xdc, .slice xpa xpl xpc] 27)).alloc (.cells #[.int .i64 0, .int .i64 0, .int .u64 0, .slice none 0 0] 118) = w0 at *
 go_wp2_with (fail)
 have hbd : Below w0.heap.size w0 w0.drew := below_drN (Below.refl _ _) 1
 have hS0 : (fun W_ : World => Bx W_ w.heap.size #[.int .u64 (xn : Int), .slice xda xdl xdc, .slice xpa xpl xpc] ∧ Bx W_ g0 #[.int .i64 no] ∧ Bx W_ g1 #[.slice so sn sc]) w0.drew := ⟨⟨_, keep hbd r0⟩, hb0.keep hbd, hb1.keep hbd⟩
 refine wp_region_noPanic ?_
 refine wp_region_held (S := fun W_ : World => Bx W_ w.heap.size #[.int .u64 (xn : Int), .slice xda xdl xdc, .slice xpa xpl xpc] ∧ Bx W_ g0 #[.int .i64 no] ∧ Bx W_ g1 #[.slice so sn sc]) (by kernel_rfl) ?_
 change wpAnyH _ _ _ _ _ _ _ _ (World.drew _)
 replace r1 := keep hbd r1
 replace hz := Nat.lt_of_lt_of_le hz hbd.size
 replace hb := Below.after hb hbd
 have cC := hC _ hb
 clear hb0 hb1 hbd r0 hC
 generalize w0.drew = w1 at *
 refine wpAnyH_take (i := 0) (v := .int .i64 no) rfl (by kernel_rfl) (by kernel_rfl) (by kernel_rfl) (fun _ _ _ h => h) (Or.inl ⟨by rfl, ?y1a_inner2⟩) hS0 ?r1a_inner2
 case y1a_inner2 =>
  intro w_ hS_
  obtain ⟨_, h_⟩ := hS_.2.1
  have c_ := cell_of_row _ _ 0 _ _ _ h_
  go_simp
  try with_reducible rfl
 simp only [Act.put, List.getElem_toArray, List.getElem_cons_zero, List.setIfInBounds_toArray, List.set_cons_succ, List.set_cons_zero]
 refine wpAnyH_take (i := 1) (v := .slice so sn sc) rfl (by kernel_rfl) (by kernel_rfl) (by kernel_rfl) (fun _ _ _ h => h) (Or.inl ⟨by rfl, ?y2a_inner2⟩) hS0 ?r2a_inner2
 case y2a_inner2 =>
  intro w_ hS_
  obtain ⟨_, h_⟩ := hS_.2.2
  have c_ := cell_of_row _ _ 0 _ _ _ h_
  go_simp
  try with_reducible rfl
 simp only [Act.put, List.getElem_toArray, List.getElem_cons_succ, List.getElem_cons_zero, List.setIfInBounds_toArray, List.set_cons_succ, List.set_cons_zero]
 refine wpAnyH_take (i := 2) (v := .agg #[.int .u64 (xn : Int), .slice xda xdl xdc, .slice xpa xpl xpc]) rfl (by kernel_rfl) (by kernel_rfl) (by kernel_rfl) (fun _ _ _ h => h) (yieldsIf_load_mid (by rfl) 27 _ rfl w.heap.size 0 rfl [.int .u64 (xn : Int), .slice xda xdl xdc, .slice xpa xpl xpc] _ (fun _ h => range_row h.1) Tryz.underlying27 rfl infoV) hS0 ?_
 simp only [Act.put, List.getElem_toArray, List.getElem_cons_succ, List.getElem_cons_zero, List.setIfInBounds_toArray, List.set_cons_succ, List.set_cons_zero]
 refine wpAnyH_one (k := 3) (fuel := 2) (by kernel_rfl) rfl (by kernel_rfl) (fun K_ hK => ?_)
 refine wp_call_ex (R := fun u w' => Own w' w1.heap.size u bs ∧ Below w1.heap.size w1 w') (by kernel_rfl) (cC.mono fun e w' h => h) (fun u w2 hX_ => ?_)
 obtain ⟨hU, hb2⟩ := hX_
 obtain ⟨ua, uc, rfl, hB, hA⟩ := own_told hU hbs
 have hS2 : _ ∧ _ ∧ _ := ⟨hS0.1.keep hb2, hS0.2.1.keep hb2, hS0.2.2.keep hb2⟩
 replace r1 := keep hb2 r1
 have hsz := hb.size
 have hsz2 := hb2.size
 replace hb := Below.after hb hb2
 refine hK _ _ hS2 ?_
 simp only [Act.put, List.getElem_toArray, List.getElem_cons_succ, List.getElem_cons_zero, List.setIfInBounds_toArray, List.set_cons_succ, List.set_cons_zero]
 clear hK cC hS0 hU hb2
 refine wpAnyH_one (k := 4) (fuel := 1) (by kernel_rfl) rfl (by kernel_rfl) (fun K_ hK => ?_)
 refine wp_pure_op (.agg #[.int .i64 no, .int .i64 2, .int .u64 0, .slice ua bs.length uc]) (by kernel_rfl) ?_
 refine hK _ _ hS2 ?_
 simp only [Act.put, List.getElem_toArray, List.getElem_cons_succ, List.getElem_cons_zero, List.setIfInBounds_toArray, List.set_cons_succ, List.set_cons_zero]
 clear hK
 have hone : (#[.int .i64 no, .int .i64 2, .int .u64 0, .slice ua bs.length uc] : Array Value).all (·.oneCell') = true := by simp [Value.oneCell']
 refine wpAnyH_one (k := 5) (fuel := 0) (by kernel_rfl) rfl (by kernel_rfl) (fun K_ hK => ?_)
 refine wp_store_row 118 _ _ rfl (w.heap.size + 1) #[.int .i64 no, .int .i64 2, .int .u64 0, .slice ua bs.length uc] rfl rfl 118 _ r1 infoFi rfl hone ?_
 have rF := setRow_heap w2 (w.heap.size + 1) _ #[.int .i64 no, .int .i64 2, .int .u64 0, .slice ua bs.length uc] _ _ r1
 have hS3 : Bx (w2.setRow (w.heap.size + 1) #[.int .i64 no, .int .i64 2, .int .u64 0, .slice ua bs.length uc]) w.heap.size #[.int .u64 (xn : Int), .slice xda xdl xdc, .slice xpa xpl xpc] ∧ Bx (w2.setRow (w.heap.size + 1) #[.int .i64 no, .int .i64 2, .int .u64 0, .slice ua bs.length uc]) g0 #[.int .i64 no] ∧ Bx (w2.setRow (w.heap.size + 1) #[.int .i64 no, .int .i64 2, .int .u64 0, .slice ua bs.length uc]) g1 #[.slice so sn sc] := ⟨hS2.1.row (by omega), hS2.2.1.row (by have := h0.lt; omega), hS2.2.2.row (by have := h1.lt; omega)⟩
 have hB3 := bysB_move (V := w2.setRow (w.heap.size + 1) #[.int .i64 no, .int .i64 2, .int .u64 0, .slice ua bs.length uc]) hB (by simp) (fun a e => setRow_other _ _ _ _ (by have := hA a (lv_some e); omega))
 have hA3 : ∀ a, ua = some a → a.block < (w2.setRow (w.heap.size + 1) #[.int .i64 no, .int .i64 2, .int .u64 0, .slice ua bs.length uc]).heap.size ∧ w.heap.size ≤ a.block := fun a e => ⟨by have := (hA a e).1; simpa using this, by have := hA a e; omega⟩
 have hb3 := below_setRow (g := w.heap.size + 1) hb (by omega) #[.int .i64 no, .int .i64 2, .int .u64 0, .slice ua bs.length uc]
 refine hK _ _ hS3 ?_
 simp only [Act.put]
 clear hK
 generalize w2.setRow (w.heap.size + 1) #[.int .i64 no, .int .i64 2, .int .u64 0, .slice ua bs.length uc] = w3 at *
 refine wpAnyH_done (by kernel_rfl) ?_ _
 refine NoPanic.normal ?_
 go_wp2_with (fail)
 exact bodyPost_ret (v := .agg #[.int .i64 no, .int .i64 2, .int .u64 0, .slice ua bs.length uc]) (results_cell_row Tryz.results124 _ _ (w.heap.size + 1) _ #[.int .i64 no, .int .i64 2, .int .u64 0, .slice ua bs.length uc] _ _ rfl rF Tryz.underlying118 rfl infoFi) rfl ⟨ua, bs.length, uc, rfl, hB3, ⟨by show 0 < 18446744073709551616; decide, by show bs.length ≤ _; omega, hno.1, hno.2⟩, fun a e => ⟨(hA3 a (lv_some e)).1, .inr (hA3 a (lv_some e)).2⟩, hb3⟩
set_option maxRecDepth 100000 in
set_option maxHeartbeats 8000000 in
theorem a_listed2 (no : Int) (hno : -9223372036854775808 ≤ no ∧ no ≤ 9223372036854775807) (x : VR) (g0 g1 : Nat) (so : Option Addr) (sn sc : Nat) (w : World) (L : Nat) (bs : List B) (hbs : bs.length ≤ 4194304) (h0 : Bx w g0 #[.int .i64 no]) (h1 : Bx w g1 #[.slice so sn sc])
 (hC : ∀ V, Below w.heap.size w V → Calls Tryz.prog 130 #[.slice so sn sc, .slice x.pa x.pl x.pc] V fun e w' => ∃ u, e = .returned u ∧ Own w' V.heap.size u bs ∧ Below V.heap.size V w') :
 Calls Tryz.prog 129 #[.agg (vrv x), ptr g0, ptr g1] w (WrR w L ⟨no, 2, 0, bs⟩) := by
 obtain ⟨xn, xda, xdl, xdc, xpa, xpl, xpc⟩ := x
 unfold vrv vrw at *
 have r0 := hp2_0 w (.cells #[.int .u64 (xn : Int), .slice xda xdl xdc, .slice xpa xpl xpc] 27) (.cells #[.int .i64 0, .int .i64 0, .int .u64 0, .slice none 0 0] 118)
 have r1 := hp2_1 w (.cells #[.int .u64 (xn : Int), .slice xda xdl xdc, .slice xpa xpl xpc] 27) (.cells #[.int .i64 0, .int .i64 0, .int .u64 0, .slice none 0 0] 118)
 have hb : Below w.heap.size w ((w.alloc (.cells #[.int .u64 (xn : Int), .slice xda xdl xdc, .slice xpa xpl xpc] 27)).alloc (.cells #[.int .i64 0, .int .i64 0, .int .u64 0, .slice none 0 0] 118)) := ((Below.refl _ _).alloc (Nat.le_refl _) _).alloc (by simp) _
 have hb0 := h0.keep hb
 have hb1 := h1.keep hb
 unfold ptr
 go_enter Tryz.func129, Tryz.ntmps129
 iterate 9 go_step
 have hz : w.heap.size + 1 < ((w.alloc (.cells #[.int .u64 (xn : Int), .slice xda xdl xdc, .slice xpa xpl xpc] 27)).alloc (.cells #[.int .i64 0, .int .i64 0, .int .u64 0, .slice none 0 0] 118)).heap.size := by simp
 generalize (w.alloc (.cells #[.int .u64 (xn : Int), .slice xda xdl xdc, .slice xpa xpl xpc] 27)).alloc (.cells #[.int .i64 0, .int .i64 0, .int .u64 0, .slice none 0 0] 118) = w0 at *
 go_wp2_with (fail)
 have hbd : Below w0.heap.size w0 w0.drew := below_drN (Below.refl _ _) 1
 have hS0 : (fun W_ : World => Bx W_ w.heap.size #[.int .u64 (xn : Int), .slice xda xdl xdc, .slice xpa xpl xpc] ∧ Bx W_ g0 #[.int .i64 no] ∧ Bx W_ g1 #[.slice so sn sc]) w0.drew := ⟨⟨_, keep hbd r0⟩, hb0.keep hbd, hb1.keep hbd⟩
 refine wp_region_noPanic ?_
 refine wp_region_held (S := fun W_ : World => Bx W_ w.heap.size #[.int .u64 (xn : Int), .slice xda xdl xdc, .slice xpa xpl xpc] ∧ Bx W_ g0 #[.int .i64 no] ∧ Bx W_ g1 #[.slice so sn sc]) (by kernel_rfl) ?_
 change wpAnyH _ _ _ _ _ _ _ _ (World.drew _)
 replace r1 := keep hbd r1
 replace hz := Nat.lt_of_lt_of_le hz hbd.size
 replace hb := Below.after hb hbd
 have cC := hC _ hb
 clear hb0 hb1 hbd r0 hC
 generalize w0.drew = w1 at *
 refine wpAnyH_take (i := 0) (v := .int .i64 no) rfl (by kernel_rfl) (by kernel_rfl) (by kernel_rfl) (fun _ _ _ h => h) (Or.inl ⟨by rfl, ?y1a_listed2⟩) hS0 ?r1a_listed2
 case y1a_listed2 =>
  intro w_ hS_
  obtain ⟨_, h_⟩ := hS_.2.1
  have c_ := cell_of_row _ _ 0 _ _ _ h_
  go_simp
  try with_reducible rfl
 simp only [Act.put, List.getElem_toArray, List.getElem_cons_zero, List.setIfInBounds_toArray, List.set_cons_succ, List.set_cons_zero]
 refine wpAnyH_take (i := 1) (v := .slice so sn sc) rfl (by kernel_rfl) (by kernel_rfl) (by kernel_rfl) (fun _ _ _ h => h) (Or.inl ⟨by rfl, ?y2a_listed2⟩) hS0 ?r2a_listed2
 case y2a_listed2 =>
  intro w_ hS_
  obtain ⟨_, h_⟩ := hS_.2.2
  have c_ := cell_of_row _ _ 0 _ _ _ h_
  go_simp
  try with_reducible rfl
 simp only [Act.put, List.getElem_toArray, List.getElem_cons_succ, List.getElem_cons_zero, List.setIfInBounds_toArray, List.set_cons_succ, List.set_cons_zero]
 refine wpAnyH_take (i := 2) (v := ?vfa) rfl (by kernel_rfl) (by kernel_rfl) (by kernel_rfl) (fun _ _ _ h => h) (Or.inl ⟨by rfl, ?y3a_listed2⟩) hS0 ?r3a_listed2
 case y3a_listed2 =>
  intro w_ hS_
  skip
  go_simp
  try with_reducible rfl
 simp only [Act.put, List.getElem_toArray, List.getElem_cons_succ, List.getElem_cons_zero, List.setIfInBounds_toArray, List.set_cons_succ, List.set_cons_zero]
 refine wpAnyH_take (i := 3) (v := .slice xpa xpl xpc) rfl (by kernel_rfl) (by kernel_rfl) (by kernel_rfl) (fun _ _ _ h => h) (Or.inl ⟨by rfl, ?y4a_listed2⟩) hS0 ?r4a_listed2
 case y4a_listed2 =>
  intro w_ hS_
  obtain ⟨_, h_⟩ := hS_.1
  have c_ := cell_of_row _ _ 2 _ _ _ h_
  go_simp
  try with_reducible rfl
 simp only [Act.put, List.getElem_toArray, List.getElem_cons_succ, List.getElem_cons_zero, List.setIfInBounds_toArray, List.set_cons_succ, List.set_cons_zero]
 refine wpAnyH_one (k := 4) (fuel := 2) (by kernel_rfl) rfl (by kernel_rfl) (fun K_ hK => ?_)
 refine wp_call_ex (R := fun u w' => Own w' w1.heap.size u bs ∧ Below w1.heap.size w1 w') (by kernel_rfl) (cC.mono fun e w' h => h) (fun u w2 hX_ => ?_)
 obtain ⟨hU, hb2⟩ := hX_
 obtain ⟨ua, uc, rfl, hB, hA⟩ := own_told hU hbs
 have hS2 : _ ∧ _ ∧ _ := ⟨hS0.1.keep hb2, hS0.2.1.keep hb2, hS0.2.2.keep hb2⟩
 replace r1 := keep hb2 r1
 have hsz := hb.size
 have hsz2 := hb2.size
 replace hb := Below.after hb hb2
 refine hK _ _ hS2 ?_
 simp only [Act.put, List.getElem_toArray, List.getElem_cons_succ, List.getElem_cons_zero, List.setIfInBounds_toArray, List.set_cons_succ, List.set_cons_zero]
 clear hK cC hS0 hU hb2
 refine wpAnyH_one (k := 5) (fuel := 1) (by kernel_rfl) rfl (by kernel_rfl) (fun K_ hK => ?_)
 refine wp_pure_op (.agg #[.int .i64 no, .int .i64 2, .int .u64 0, .slice ua bs.length uc]) (by kernel_rfl) ?_
 refine hK _ _ hS2 ?_
 simp only [Act.put, List.getElem_toArray, List.getElem_cons_succ, List.getElem_cons_zero, List.setIfInBounds_toArray, List.set_cons_succ, List.set_cons_zero]
 clear hK
 have hone : (#[.int .i64 no, .int .i64 2, .int .u64 0, .slice ua bs.length uc] : Array Value).all (·.oneCell') = true := by simp [Value.oneCell']
 refine wpAnyH_one (k := 6) (fuel := 0) (by kernel_rfl) rfl (by kernel_rfl) (fun K_ hK => ?_)
 refine wp_store_row 118 _ _ rfl (w.heap.size + 1) #[.int .i64 no, .int .i64 2, .int .u64 0, .slice ua bs.length uc] rfl rfl 118 _ r1 infoFi rfl hone ?_
 have rF := setRow_heap w2 (w.heap.size + 1) _ #[.int .i64 no, .int .i64 2, .int .u64 0, .slice ua bs.length uc] _ _ r1
 have hS3 : Bx (w2.setRow (w.heap.size + 1) #[.int .i64 no, .int .i64 2, .int .u64 0, .slice ua bs.length uc]) w.heap.size #[.int .u64 (xn : Int), .slice xda xdl xdc, .slice xpa xpl xpc] ∧ Bx (w2.setRow (w.heap.size + 1) #[.int .i64 no, .int .i64 2, .int .u64 0, .slice ua bs.length uc]) g0 #[.int .i64 no] ∧ Bx (w2.setRow (w.heap.size + 1) #[.int .i64 no, .int .i64 2, .int .u64 0, .slice ua bs.length uc]) g1 #[.slice so sn sc] := ⟨hS2.1.row (by omega), hS2.2.1.row (by have := h0.lt; omega), hS2.2.2.row (by have := h1.lt; omega)⟩
 have hB3 := bysB_move (V := w2.setRow (w.heap.size + 1) #[.int .i64 no, .int .i64 2, .int .u64 0, .slice ua bs.length uc]) hB (by simp) (fun a e => setRow_other _ _ _ _ (by have := hA a (lv_some e); omega))
 have hA3 : ∀ a, ua = some a → a.block < (w2.setRow (w.heap.size + 1) #[.int .i64 no, .int .i64 2, .int .u64 0, .slice ua bs.length uc]).heap.size ∧ w.heap.size ≤ a.block := fun a e => ⟨by have := (hA a e).1; simpa using this, by have := hA a e; omega⟩
 have hb3 := below_setRow (g := w.heap.size + 1) hb (by omega) #[.int .i64 no, .int .i64 2, .int .u64 0, .slice ua bs.length uc]
 refine hK _ _ hS3 ?_
 simp only [Act.put]
 clear hK
 generalize w2.setRow (w.heap.size + 1) #[.int .i64 no, .int .i64 2, .int .u64 0, .slice ua bs.length uc] = w3 at *
 refine wpAnyH_done (by kernel_rfl) ?_ _
 refine NoPanic.normal ?_
 go_wp2_with (fail)
 exact bodyPost_ret (v := .agg #[.int .i64 no, .int .i64 2, .int .u64 0, .slice ua bs.length uc]) (results_cell_row Tryz.results129 _ _ (w.heap.size + 1) _ #[.int .i64 no, .int .i64 2, .int .u64 0, .slice ua bs.length uc] _ _ rfl rF Tryz.underlying118 rfl infoFi) rfl ⟨ua, bs.length, uc, rfl, hB3, ⟨by show 0 < 18446744073709551616; decide, by show bs.length ≤ _; omega, hno.1, hno.2⟩, fun a e => ⟨(hA3 a (lv_some e)).1, .inr (hA3 a (lv_some e)).2⟩, hb3⟩
end Go.Proofs.YtmmlkfkpblokiaaGreatDoor
namespace Go.Proofs.YtmmlkfkpblokiaaGreatDoor
set_option maxRecDepth 100000
open Go Go.RowKit Go.Sort
attribute [local go_sem] setCell_drewN alloc_drewN
set_option maxRecDepth 100000 in
set_option maxHeartbeats 8000000 in
theorem a_join8 (L : Nat) (enc : VT → List B) (henc : ∀ Z, (enc Z).length ≤ 4194304) (so : Option Addr) (sn sc : Nat) (pv : Value) (xs : List VR) (ps : List VT) (w : World) (hP : PtM w (fun b => b < L) pv xs ps)
 (hC : ∀ V z Z, Below w.heap.size w V → VtM V (fun b => b < L) z Z → Z ∈ ps → Calls Tryz.prog 35 #[.slice so sn sc, .agg (vrv z)] V fun e w' => ∃ u, e = .returned u ∧ Own w' V.heap.size u (enc Z) ∧ Below V.heap.size V w') :
 Calls Tryz.prog 130 #[.slice so sn sc, pv] w fun e w' => ∃ u, e = .returned u ∧ Own w' w.heap.size u (jout (ps.map enc)) ∧ Below w.heap.size w w' := by
 obtain ⟨pa, pc, rfl, hxl, hcap, hpm, hrow, hvt⟩ := hP
 have HR := hide hrow
 have HV := hide hvt
 have HC := hide hC
 have HE := hide henc
 clear hrow hvt hC henc hxl
 go_enter Tryz.func130, Tryz.ntmps130
 go_wp2_with (fail)
 go_loopw [12, 7, 5] (fun i _ out wr => ∃ (k : Nat) (us : List Value), k ≤ ps.length ∧ i = .int .i64 k ∧ Its wr w.heap.size out us ((ps.take k).map enc) ∧ Below w.heap.size w wr) (fun i _ _ _ => ps.length - (intOf i).toNat)
 case atStart => exact ⟨0, [], by omega, rfl, its_nil _ _, Below.refl _ _⟩
 case round =>
  obtain ⟨k, us, hk, rfl, hI, hb⟩ := hrel
  obtain ⟨mo, mc, rfl⟩ := own_slice hI.1
  have hul : us.length = k := by rw [hI.2.1, List.length_map, List.length_take]; omega
  replace hul := hide hul
  by_cases hlt : k < ps.length
  ·have hd2 : decide ((k : Int) < (ps.length : Int)) = true := by simp; omega
   obtain ⟨b, off, hxe, hbl, hra⟩ := HR.out k hlt
   subst hxe
   have hvz := (HV.out k hlt).blw hb
   have hpw := rangeS_keep2 hra hb hbl
   have hmem : gvt ps k ∈ ps := by rw [gvt, List.getD_eq_getElem?_getD, List.getElem?_eq_getElem hlt]; exact List.getElem_mem hlt
   have hmap : (ps.take (k + 1)).map enc = (ps.take k).map enc ++ [enc (gvt ps k)] := by
    rw [List.take_add_one, List.map_append, List.getElem?_eq_getElem hlt]
    simp [gvt, List.getD_eq_getElem?_getD, List.getElem?_eq_getElem hlt]
   have cC := fun V (hV : Below w.heap.size w V) hz => HC.out V (gx xs k) (gvt ps k) hV hz hmem
   have hEl := HE.out (gvt ps k)
   replace hmap := hide hmap
   clear hmem hra HR HV HC HE
   generalize hEE : enc (gvt ps k) = E at *
   clear hEE
   generalize gvt ps k = Zk at *
   generalize gx xs k = z at *
   obtain ⟨zn, zda, zdl, zdc, zpa, zpl, zpc⟩ := z
   unfold vrv vrw at *
   have hba : Below wr.heap.size wr (wr.alloc (.cells #[.int .u64 0, .slice none 0 0, .slice none 0 0] 27)) := (Below.refl _ _).alloc (Nat.le_refl _) _
   have rS := hp1_0 wr (.cells #[.int .u64 0, .slice none 0 0, .slice none 0 0] 27)
   have hbb := below_setRow (g := wr.heap.size) hba (Nat.le_refl _) #[.int .u64 (zn : Int), .slice zda zdl zdc, .slice zpa zpl zpc]
   have rS2 := setRow_heap _ wr.heap.size _ #[.int .u64 (zn : Int), .slice zda zdl zdc, .slice zpa zpl zpc] _ _ rS
   have hvz2 := hvz.blw hbb
   have hI2 := hI.keep hbb
   have hne : (Value.slice mo us.length mc).ownBlock ≠ some wr.heap.size := fun e => by have := hI.high.1 _ e; omega
   have hbw := Below.after hb hbb
   have hszr := hb.size
   have hone : (#[.int .u64 (zn : Int), .slice zda zdl zdc, .slice zpa zpl zpc] : Array Value).all (·.oneCell') = true := by simp [Value.oneCell']
   have A1 := hide hvz2
   have A2 := hide hbw
   have A3 := hide rS2
   have A4 := hide cC
   have A5 := hide hI2
   clear hvz hvz2 hbw rS2 cC hba hbb hb hI hI2
   go_wp2_with (first | (refine wpList_load_mid rfl 27 _ rfl b (off + k * 3) rfl _ _ hpw Tryz.underlying27 rfl infoV ?_) | (refine wpList_store_row rfl 27 _ _ rfl wr.heap.size #[.int .u64 (zn : Int), .slice zda zdl zdc, .slice zpa zpl zpc] rfl rfl 27 _ rS infoV rfl hone ?_; refine wpList_stay ?_) | fail)
   unfold WpStay
   generalize (wr.alloc (.cells #[.int .u64 0, .slice none 0 0, .slice none 0 0] 27)).setRow wr.heap.size #[.int .u64 (zn : Int), .slice zda zdl zdc, .slice zpa zpl zpc] = w2 at *
   have rS2 := A3.out
   have hszw := A2.out.size
   clear rS hpw
   go_wp2_with (first | (refine wpList_load_want rfl 27 _ rfl wr.heap.size rfl 27 #[.int .u64 (zn : Int), .slice zda zdl zdc, .slice zpa zpl zpc] (0, 0) _ rS2 Tryz.underlying27 rfl infoV ?_) | fail)
   refine (A4.out _ A2.out A1.out).mono ?_
   rintro e_ w4 ⟨u, rfl, hU, hb4⟩
   obtain ⟨ua, uc, rfl⟩ := slen_own hU
   have hH := A5.out.high
   have hba : Below w4.heap.size w4 (w4.alloc (.cells #[.slice ua E.length uc] 24)) := (Below.refl _ _).alloc (Nat.le_refl _) _
   have r5 := hp1_0 w4 (.cells #[.slice ua E.length uc] 24)
   have hI5 := (A5.out.keep hb4).keep hba
   have hU5 := hU.keep hba
   have hb5 := Below.after (Below.after A2.out hb4) hba
   have hlen5 : ((ps.take k).map enc).length ≤ 5864062014634 := by rw [List.length_map, List.length_take]; omega
   have hsz5 := hb5.size
   have hnews : ∀ (j : Nat) (x : Value), [Value.slice ua E.length uc][j]? = some x → (w4.alloc (.cells #[.slice ua E.length uc] 24)).cell? ((⟨w4.heap.size, 0, none⟩ : Addr).add j) = some x := fun j u hu => by rw [add_off, cell_of_row _ _ _ _ _ _ r5]; simpa using hu
   replace hI5 := hide hI5
   replace hU5 := hide hU5
   replace hb5 := hide hb5
   replace hnews := hide hnews
   clear A1 A2 A3 A4 A5 hba r5 hU hb4 rS2
   go_wp2_with (at_builtin; refine wpList_append_I rfl (.tmp 16) (.tmp 20) rfl w.heap.size _ us _ rfl w2.heap.size hI5.out hH.1 hH.2 hszw _ E hU5.out w4.heap.size rfl hnews.out hlen5 hsz5 ?_)
   intro v' w6 hI6 hg6
   have hB6 : Below w.heap.size w w6 := hb5.out.grown hg6 hsz5 (fun q hq => (own_high_row hI5.out.1 q hq).1)
   obtain ⟨vo, vc, rfl⟩ := own_slice hI6.1
   have B1 := hide hI6
   have B2 := hide hB6
   clear hI6 hg6 hB6 hI5 hU5 hb5 hnews hH
   go_wp2_with (fail)
   refine ⟨⟨k + 1, us ++ [.slice ua E.length uc], by omega, by go_num, ?_, B2.out⟩, ?_⟩
   ·rw [hmap.out, List.map_take]
    exact B1.out
   ·simp [intOf]; omega
  ·have hd2 : decide ((k : Int) < (ps.length : Int)) = false := by simp; omega
   obtain rfl : k = ps.length := by omega
   rw [List.take_length] at hI
   have cJ := a_join (ps.map enc) wr _ (hI.pcb (by rw [List.length_map]; exact hpm) (fun i hi => by
    rw [List.length_map] at hi
    have : gp (ps.map enc) i = enc (gvt ps i) := by
     rw [gp, List.getD_eq_getElem?_getD, List.getElem?_map, List.getElem?_eq_getElem hi, gvt, List.getD_eq_getElem?_getD, List.getElem?_eq_getElem hi]
     rfl
    rw [this]
    have := HE.out (gvt ps i)
    omega))
   clear hI HR HV HC HE hul
   generalize hJ : jout (ps.map enc) = J at *
   replace hJ := hide hJ
   generalize jer (ps.map enc) = JE at *
   go_wp2_with (fail)
   refine cJ.mono ?_
   rintro e_ w4 ⟨u, rfl, hU, hb4⟩
   have hsz := hb.size
   have hU2 := own_down hU hsz
   replace hb := Below.after hb hb4
   obtain ⟨ua, uc, rfl⟩ := slen_own hU2
   clear hU cJ
   go_wp2_with (fail)
   go_ret
   exact ⟨_, rfl, by rw [hJ.out]; exact hU2, hb⟩
end Go.Proofs.YtmmlkfkpblokiaaGreatDoor
namespace Go.Proofs.YtmmlkfkpblokiaaGreatDoor
set_option maxRecDepth 100000
open Go Go.RowKit Go.Sort
attribute [local go_sem] setCell_drewN alloc_drewN
theorem plain_field (t : Slt) (h8 : t.kind ≠ 8) (h9 : t.kind ≠ 9) (X : VT) : fdS t X = ⟨t.no, wtA t.kind, X.num, X.dat⟩ := by
 unfold fdS fdN
 rw [if_neg (by omega), if_neg h8, if_neg h9]
theorem msg_field (t : Slt) (h8 : t.kind = 8) (X : VT) : fdS t X = ⟨t.no, 2, 0, enT t.sub X⟩ := by
 have hw : wtA t.kind = 2 := by rw [h8]; rfl
 unfold fdS fdN
 rw [hw, if_pos (show t.kind = 8 ∨ t.kind = 9 from .inl h8), if_pos h8]
theorem lst_field (t : Slt) (h9 : t.kind = 9) (X : VT) : fdS t X = ⟨t.no, 2, 0, jout (X.parts.map (enT t.sub))⟩ := by
 have hw : wtA t.kind = 2 := by rw [h9]; rfl
 unfold fdS fdN
 rw [hw, if_pos (show t.kind = 8 ∨ t.kind = 9 from .inr h9), if_neg (by omega), if_pos h9]
theorem ent_inner2 (args : Array Value) (W : World) : (callFunc 124 args).run Tryz.prog W = .ok (.enter 124 args) W := by kernel_rfl
theorem ent_listed2 (args : Array Value) (W : World) : (callFunc 129 args).run Tryz.prog W = .ok (.enter 129 args) W := by kernel_rfl
theorem a_slotWriteT {W : World} {S0 : Nat → Prop} {t : Slt} {u : Value} {row : Array Value} (h : SlC W S0 t u row) (hno : 1 ≤ t.no ∧ t.no ≤ 536870911) (hu : nst t → ∃ so sn sc, u = .slice so sn sc)
 (hsub : nst t → ∀ (L : Nat) (x : VR) (X : VT) (w : World), VtM w (fun b => b < L) x X → Below W.heap.size W w → X.parts.length = t.sub.length → wfT t.sub X.parts → L ≤ w.heap.size → Calls Tryz.prog 35 #[u, .agg (vrv x)] w fun e w' => ∃ u, e = .returned u ∧ Own w' w.heap.size u (enT t.sub X) ∧ Below w.heap.size w w') :
 ∃ wt k1 k2 k3 a1 a2 a3, row = rdv t.no wt k1 k2 k3 a1 a2 a3 ∧ (∀ args W, (callFunc k2 args).run Tryz.prog W = .ok (.enter k2 args) W) ∧
 ∀ (L : Nat) (x : VR) (X : VT) (w : World), VtM w (fun b => b < L) x X → Below W.heap.size W w → (t.kind = 8 → X.parts.length = t.sub.length ∧ wfT t.sub X.parts) → (t.kind = 9 → ∀ p ∈ X.parts, p.parts.length = t.sub.length ∧ wfT t.sub p.parts) → L ≤ w.heap.size → Calls Tryz.prog k2 (#[.agg (vrv x)] ++ a2) w (WrR w L (fdS t X)) := by
 have gen : ∀ (wt : Int) (k : FuncId) (cs : Array Value), PlC W S0 t.no wt k cs row → wtA t.kind = wt → t.kind ≠ 8 → t.kind ≠ 9 → ∃ wt k1 k2 k3 a1 a2 a3, row = rdv t.no wt k1 k2 k3 a1 a2 a3 ∧ (∀ args W, (callFunc k2 args).run Tryz.prog W = .ok (.enter k2 args) W) ∧
  ∀ (L : Nat) (x : VR) (X : VT) (w : World), VtM w (fun b => b < L) x X → Below W.heap.size W w → (t.kind = 8 → X.parts.length = t.sub.length ∧ wfT t.sub X.parts) → (t.kind = 9 → ∀ p ∈ X.parts, p.parts.length = t.sub.length ∧ wfT t.sub p.parts) → L ≤ w.heap.size → Calls Tryz.prog k2 (#[.agg (vrv x)] ++ a2) w (WrR w L (fdS t X)) := by
  intro wt k cs ⟨g0, g1, g2, g4, gs, e, h0, h1, h2, h4, h5⟩ hwt h8 h9
  refine ⟨wt, _, _, _, _, _, _, e, ent_plain2, fun L x X w hx hb _ _ _ => ?_⟩
  rw [plain_field t h8 h9, hwt]
  have hq := hx
  cases hx with
  | mk x bs xs ps hn hdl hbl hd hdc hds hpl hxl hpc hpm hps hP hs =>
   refine (a_plain2 x.num x.da x.dl x.dc x.pa x.pl x.pc t.no wt g0 g1 w (h0.2.keep hb) (h1.2.keep hb)).mono fun e w' ⟨he, hb'⟩ => ?_
   refine ⟨x.da, x.dl, x.dc, he, hd.keep hb', ⟨hn, hbl, by show _ ≤ t.no; omega, by show t.no ≤ _; omega⟩, fun a ea => ⟨Nat.lt_of_lt_of_le (hds a ea).2 hb'.size, .inl (hds a ea).1⟩, hb'⟩
 rcases h with ⟨hk, h⟩ | ⟨hk, h⟩ | ⟨hk, h⟩ | ⟨hk, h⟩ | ⟨hk, h⟩ | ⟨hk, h⟩ | ⟨hk, h⟩ | ⟨hk, h⟩
 ·exact gen 0 _ _ h (by rw [hk]; rfl) (by omega) (by omega)
 ·exact gen 5 _ _ h (by rw [hk]; rfl) (by omega) (by omega)
 ·exact gen 1 _ _ h (by rw [hk]; rfl) (by omega) (by omega)
 ·exact gen 0 _ _ h (by rw [hk]; rfl) (by omega) (by omega)
 ·exact gen 2 _ _ h (by rcases hk with hk | hk <;> rw [hk] <;> rfl) (by omega) (by omega)
 ·exact gen 1 _ _ h (by rw [hk]; rfl) (by omega) (by omega)
 ·obtain ⟨so, sn, sc, rfl⟩ := hu (.inl hk)
  obtain ⟨g0, g1, e, h0, h1⟩ := h
  refine ⟨2, _, _, _, _, _, _, e, ent_inner2, fun L x X w hx hb w8 _ hLw => ?_⟩
  rw [msg_field t hk]
  exact a_inner2 t.no (by omega) x g0 g1 so sn sc w L (enT t.sub X) (eout_len _) (h0.2.keep hb) (h1.2.keep hb) (fun V hV => hsub (.inl hk) L x X V (hx.blw hV) (Below.after hb hV) (w8 hk).1 (w8 hk).2 (Nat.le_trans hLw hV.size))
 ·obtain ⟨so, sn, sc, rfl⟩ := hu (.inr hk)
  obtain ⟨g0, g1, g2, y, e, h0, h1, h2⟩ := h
  refine ⟨2, _, _, _, _, _, _, e, ent_listed2, fun L x X w hx hb _ w9 hLw => ?_⟩
  rw [lst_field t hk]
  obtain ⟨xs, hP⟩ := hx.split
  exact a_listed2 t.no (by omega) x g0 g2 so sn sc w L (jout (X.parts.map (enT t.sub))) (jout_len _) (h0.2.keep hb) (h2.2.keep hb) (fun V hV => a_join8 L (enT t.sub) (fun Z => eout_len _) so sn sc _ xs X.parts V (hP.blw hV) (fun V2 z Z hV2 hZ hm => hsub (.inr hk) L z Z V2 hZ (Below.after (Below.after hb hV) hV2) (w9 hk Z hm).1 (w9 hk Z hm).2 (Nat.le_trans hLw (Nat.le_trans hV.size hV2.size))))
set_option maxRecDepth 100000 in
set_option maxHeartbeats 8000000 in
theorem a_encodeT {W : World} {S0 : Nat → Prop} {v : Value} {ts : List Slt} (h : RdL W S0 v ts) : gd ts → ∀ (L : Nat) (x : VR) (X : VT) (w : World), VtM w (fun b => b < L) x X → Below W.heap.size W w → X.parts.length = ts.length → wfT ts X.parts → L ≤ w.heap.size →
 Calls Tryz.prog 35 #[v, .agg (vrv x)] w fun e w' => ∃ u, e = .returned u ∧ Own w' w.heap.size u (enT ts X) ∧ Below w.heap.size w w' := by
 induction h with
 | mk ao cap ts rows us hl hc hnn h hs ih =>
  intro hgd L x X w hX hw hlx hwf hL
  obtain ⟨xs, hP⟩ := hX.split
  obtain ⟨n, da, dl, dc, pa, pl, pc⟩ := x
  simp only at hP
  unfold enT
  generalize X.parts = ps at *
  obtain ⟨pa', pc', e, hxl, hpc, hpm, hpr, hvt⟩ := hP
  injection e with e1 e2 e3
  subst e1 e2 e3
  have hsl := fun k (hlt : k < ts.length) => fun hSl => a_slotWriteT (W := W) (S0 := S0) (t := gs ts k) (u := us k) (row := rows k) hSl (gd_at ts k hlt hgd).1 (fun hn => by obtain ⟨a, c, q⟩ := (hs k hlt hn).form; exact ⟨a, _, c, q⟩) (fun hn => ih k hlt hn ((gd_at ts k hlt hgd).2.2 hn))
  have hwa := fun k (hlt : k < ts.length) => wfT_at ts ps k hlx.symm hlt hwf
  have hps := hide (fun k (hlt : k < ts.length) => fdT_take ts ps k hlx.symm hlt)
  have hpl := hide (fun k (hk : k ≤ ts.length) => (by rw [fdT_len _ _ (by rw [List.length_take, List.length_take, hlx]), List.length_take]; omega : (fdT (ts.take k) (ps.take k)).length = k))
  have hpe := hide (show ps.take ts.length = ps by rw [← hlx, List.take_length])
  rw [hlx] at hpc hpr hvt
  unfold vrv
  rw [hlx]
  clear hX hs ih hlx hgd hwf hpm
  have hb0 : Below w.heap.size w (w.alloc (.cells (vrw n (.slice da dl dc) (.slice pa ts.length pc)) 27)) := (Below.refl _ _).alloc (Nat.le_refl _) _
  have rV := hp1_0 w (.cells (vrw n (.slice da dl dc) (.slice pa ts.length pc)) 27)
  have cE := hide (fun (V : World) (u : Value) (h : Fds V u (fdT ts ps)) => a_encode (fdT ts ps) V u h)
  unfold vrw at rV hb0 ⊢
  go_enter Tryz.func35, Tryz.ntmps35
  go_wp2_with (fail)
  generalize w.alloc (.cells #[.int .u64 (n : Int), .slice da dl dc, .slice pa ts.length pc] 27) = w0 at *
  go_loopw [12, 6, 7, 5] (fun i _ _ out wr => ∃ (k : Nat) (us2 : List Value), k ≤ ts.length ∧ i = .int .i64 k ∧ FtW wr w.heap.size out us2 (fdT (ts.take k) (ps.take k)) ∧ Below w.heap.size w wr ∧ wr.heap[w.heap.size]? = some (.cells #[.int .u64 (n : Int), .slice da dl dc, .slice pa ts.length pc] 27 (0, 0)) ∧ out.ownBlock ≠ some w.heap.size) (fun i _ _ _ _ => ts.length - (intOf i).toNat)
  case atStart => exact ⟨0, [], by omega, rfl, by rw [List.take_zero, List.take_zero, fdT_nil]; exact ftw_nil _ _, hb0, rV, by simp [Value.ownBlock]⟩
  case round =>
   clear rV hb0
   obtain ⟨k, us2, hk, rfl, hF, hb, rV, hne⟩ := hrel
   have hfl := hpl.out k hk
   have hO := hF.1
   rw [hfl] at hO
   replace hfl := hide hfl
   have hww := Below.after hw hb
   obtain ⟨mo, mc, rfl⟩ := own_slice hO
   by_cases hlt : k < ts.length
   ·have hd : decide ((k : Int) < (ts.length : Int)) = true := by simp; omega
    obtain ⟨b, rfl, hbl, _, hra, hSl⟩ := h k hlt
    obtain ⟨pb, poff, rfl, hpb, hpra⟩ := hpr k (by omega)
    obtain ⟨wt, k1, k2, k3, a1, a2, a3, hrow, hent, hcall⟩ := hsl k hlt hSl
    have hst := hps.out k hlt
    replace hst := hide hst
    rw [hrow] at hra
    have hrw := rangeS_keep2 hra hww hbl
    have hpw := rangeS_keep2 hpra hb hpb
    have cC := fun V hV hz hLV => hcall L (gx xs k) (gvt ps k) V hz hV (hwa k hlt).1 (hwa k hlt).2 hLV
    have hvz := hvt k hlt
    generalize hFF : fdS (gs ts k) (gvt ps k) = FF at *
    generalize hfs : fdT (ts.take k) (ps.take k) = fs at *
    clear hFF hfs
    have hlb := lt_of_row rV
    have hba : Below wr.heap.size wr (wr.alloc (.cells #[.int .i64 0, .int .i64 0, .nilFunc, .nilFunc, .nilFunc] 114)) := (Below.refl _ _).alloc (Nat.le_refl _) _
    have rS := hp1_0 wr (.cells #[.int .i64 0, .int .i64 0, .nilFunc, .nilFunc, .nilFunc] 114)
    have hbb := below_setRow (g := wr.heap.size) hba (Nat.le_refl _) (rdv (gs ts k).no wt k1 k2 k3 a1 a2 a3)
    have rS2 := setRow_heap _ wr.heap.size _ (rdv (gs ts k).no wt k1 k2 k3 a1 a2 a3) _ _ rS
    have hO2 := hF.keep hbb
    have hbsz := hbb.size
    replace rV := keep hbb rV
    replace hpw := rangeS_keep2 hpw hbb (Nat.lt_of_lt_of_le hpb hb.size)
    have hpb2 := Nat.lt_of_lt_of_le hpb hb.size
    replace hb := Below.after hb hbb
    replace hww := Below.after hww hbb
    generalize (gs ts k).no = no at *
    generalize gvt ps k = Zk at *
    generalize gx xs k = x at *
    replace hvz := hide hvz
    obtain ⟨fno, fty, fnum, fdat⟩ := FF
    obtain ⟨xn, xda, xdl, xdc, xpa, xpl, xpc⟩ := x
    have A1 := hide rV
    have A2 := hide hpw
    have A3 := hide hb
    have A4 := hide hww
    have A5 := hide rS2
    have A6 := hide cC
    have A7 := hide hO2
    have A8 := hide (own_lt hO)
    have A9 := hide hne
    have hone : (rdv no wt k1 k2 k3 a1 a2 a3).all (·.oneCell') = true := by simp [rdv, Value.oneCell']
    clear rV hpw hb hww rS2 cC hcall hSl hrow hra hpra h hpr hba hbb hO hO2 hF hvt hsl hwa hps hpl hpe
    unfold rdv vrv vrw at *
    go_wp2_with (first | (refine wpList_load_mid rfl 114 _ rfl b (k * 5) rfl _ _ hrw Tryz.underlying114 rfl infoSt' ?_) | (refine wpList_store_row rfl 114 _ _ rfl wr.heap.size #[.int .i64 no, .int .i64 wt, .func (.func k1) #[] a1, .func (.func k2) #[] a2, .func (.func k3) #[] a3] rfl rfl 114 _ rS infoSt' rfl hone ?_) | fail)
    have hS0 : (fun W : World => W.heap[wr.heap.size]? = some (.cells #[.int .i64 no, .int .i64 wt, .func (.func k1) #[] a1, .func (.func k2) #[] a2, .func (.func k3) #[] a3] 114 (0, 0)) ∧ W.heap[w.heap.size]? = some (.cells #[.int .u64 (n : Int), .slice da dl dc, .slice (some ⟨pb, poff, none⟩) ts.length pc] 27 (0, 0)) ∧ W.rangeAt pb (poff + k * 3) [.int .u64 (xn : Int), .slice xda xdl xdc, .slice xpa xpl xpc]) _ := ⟨A5.out, A1.out, A2.out⟩
    refine wp_region_held (S := fun W : World => W.heap[wr.heap.size]? = some (.cells #[.int .i64 no, .int .i64 wt, .func (.func k1) #[] a1, .func (.func k2) #[] a2, .func (.func k3) #[] a3] 114 (0, 0)) ∧ W.heap[w.heap.size]? = some (.cells #[.int .u64 (n : Int), .slice da dl dc, .slice (some ⟨pb, poff, none⟩) ts.length pc] 27 (0, 0)) ∧ W.rangeAt pb (poff + k * 3) [.int .u64 (xn : Int), .slice xda xdl xdc, .slice xpa xpl xpc]) (by kernel_rfl) ?_
    change wpAnyH _ _ _ _ _ _ _ _ (World.drew _)
    generalize (wr.alloc (.cells #[.int .i64 0, .int .i64 0, .nilFunc, .nilFunc, .nilFunc] 114)).setRow wr.heap.size #[.int .i64 no, .int .i64 wt, .func (.func k1) #[] a1, .func (.func k2) #[] a2, .func (.func k3) #[] a3] = w2 at *
    have hbd : Below w2.heap.size w2 w2.drew := below_drN (Below.refl _ _) 1
    replace hS0 : (fun W : World => W.heap[wr.heap.size]? = some (.cells #[.int .i64 no, .int .i64 wt, .func (.func k1) #[] a1, .func (.func k2) #[] a2, .func (.func k3) #[] a3] 114 (0, 0)) ∧ W.heap[w.heap.size]? = some (.cells #[.int .u64 (n : Int), .slice da dl dc, .slice (some ⟨pb, poff, none⟩) ts.length pc] 27 (0, 0)) ∧ W.rangeAt pb (poff + k * 3) [.int .u64 (xn : Int), .slice xda xdl xdc, .slice xpa xpl xpc]) w2.drew := hS0
    have hb := Below.after A3.out hbd
    have hww := Below.after A4.out hbd
    have hO := A7.out.keep hbd
    have hszd := hbd.size
    clear A1 A2 A3 A4 A5 A7 hbd
    generalize w2.drew = w3 at *
    refine wpAnyH_take (i := 0) (v := ?v1) rfl (by kernel_rfl) (by kernel_rfl) (by kernel_rfl) (fun _ _ _ h => h) (Or.inl ⟨by rfl, ?y1⟩) hS0 ?r1
    case y1 =>
     intro w_ hS_
     go_simp
     try with_reducible rfl
    simp only [Act.put, List.getElem_toArray, List.getElem_cons_zero, List.setIfInBounds_toArray, List.set_cons_succ, List.set_cons_zero]
    refine wpAnyH_take (i := 1) (v := ?v2) rfl (by kernel_rfl) (by kernel_rfl) (by kernel_rfl) (fun _ _ _ h => h) (Or.inl ⟨by rfl, ?y2⟩) hS0 ?r2
    case y2 =>
     intro w_ hS_
     go_simp
     try with_reducible rfl
    simp only [Act.put, List.getElem_toArray, List.getElem_cons_succ, List.getElem_cons_zero, List.setIfInBounds_toArray, List.set_cons_succ, List.set_cons_zero]
    refine wpAnyH_take (i := 2) (v := .func (.func k2) #[] a2) rfl (by kernel_rfl) (by kernel_rfl) (by kernel_rfl) (fun _ _ _ h => h) (Or.inl ⟨by rfl, ?y3⟩) hS0 ?r3
    case y3 =>
     intro w_ hS_
     have c_ := cell_of_row _ _ 3 _ _ _ hS_.1
     go_simp
     try with_reducible rfl
    simp only [Act.put, List.getElem_toArray, List.getElem_cons_succ, List.getElem_cons_zero, List.setIfInBounds_toArray, List.set_cons_succ, List.set_cons_zero]
    refine wpAnyH_take (i := 3) (v := ?v4) rfl (by kernel_rfl) (by kernel_rfl) (by kernel_rfl) (fun _ _ _ h => h) (Or.inl ⟨by rfl, ?y4⟩) hS0 ?r4
    case y4 =>
     intro w_ hS_
     go_simp
     try with_reducible rfl
    simp only [Act.put, List.getElem_toArray, List.getElem_cons_succ, List.getElem_cons_zero, List.setIfInBounds_toArray, List.set_cons_succ, List.set_cons_zero]
    refine wpAnyH_take (i := 4) (v := .slice (some ⟨pb, poff, none⟩) ts.length pc) rfl (by kernel_rfl) (by kernel_rfl) (by kernel_rfl) (fun _ _ _ h => h) (Or.inl ⟨by rfl, ?y5⟩) hS0 ?r5
    case y5 =>
     intro w_ hS_
     have c_ := cell_of_row _ _ 2 _ _ _ hS_.2.1
     go_simp
     try with_reducible rfl
    simp only [Act.put, List.getElem_toArray, List.getElem_cons_succ, List.getElem_cons_zero, List.setIfInBounds_toArray, List.set_cons_succ, List.set_cons_zero]
    refine wpAnyH_take (i := 5) (v := ?v6) rfl (by kernel_rfl) (by kernel_rfl) (by kernel_rfl) (fun _ _ _ h => h) (Or.inl ⟨by rfl, ?y6⟩) hS0 ?r6
    case y6 =>
     intro w_ hS_
     go_simp
     try with_reducible rfl
    simp only [Act.put, List.getElem_toArray, List.getElem_cons_succ, List.getElem_cons_zero, List.setIfInBounds_toArray, List.set_cons_succ, List.set_cons_zero]
    refine wpAnyH_take (i := 6) (v := ?v7) rfl (by kernel_rfl) (by kernel_rfl) (by kernel_rfl) (fun _ _ _ h => h) (Or.inl ⟨by rfl, ?y7⟩) hS0 ?r7
    case y7 =>
     intro w_ hS_
     go_simp
     try with_reducible rfl
    simp only [Act.put, List.getElem_toArray, List.getElem_cons_succ, List.getElem_cons_zero, List.setIfInBounds_toArray, List.set_cons_succ, List.set_cons_zero]
    refine wpAnyH_take (i := 7) (v := .agg #[.int .u64 (xn : Int), .slice xda xdl xdc, .slice xpa xpl xpc]) rfl (by kernel_rfl) (by kernel_rfl) (by kernel_rfl) (fun _ _ _ h => h) (yieldsIf_load_mid (by rfl) 27 _ rfl pb (poff + k * 3) rfl [.int .u64 (xn : Int), .slice xda xdl xdc, .slice xpa xpl xpc] _ (fun _ h => h.2.2) Tryz.underlying27 rfl infoV) hS0 ?_
    simp only [Act.put, List.getElem_toArray, List.getElem_cons_succ, List.getElem_cons_zero, List.setIfInBounds_toArray, List.set_cons_succ, List.set_cons_zero]
    refine wpAnyH_one (k := 8) (fuel := 3) (by kernel_rfl) rfl (by kernel_rfl) (fun K_ hK => ?_)
    have hszw := hb.size
    have c := A6.out w3 hww (hvz.out.blw hb) (Nat.le_trans hL hb.size)
    clear A6 hvz
    refine wp_call_ex (R := fun v w' => ∃ ua ul uc, v = .agg #[.int .i64 fno, .int .i64 fty, .int .u64 (fnum : Int), .slice ua ul uc] ∧ BysB w' (.slice ua ul uc) fdat ∧ Fok ⟨fno, fty, fnum, fdat⟩ ∧ (∀ a, lv ul ua = some a → a.block < w'.heap.size ∧ (a.block < L ∨ w3.heap.size ≤ a.block)) ∧ Below w3.heap.size w3 w') ?hx (c.mono fun e w' h => by obtain ⟨a1, a2, a3, h1, h2⟩ := h; exact ⟨_, h1, a1, a2, a3, rfl, h2⟩) (fun v_ w4 hX_ => ?_)
    case hx => exact run_call_val (.tmp 19) #[.tmp 24] #[27] rfl rfl _ (by simp only [List.map_toArray, List.map_cons, List.map_nil]; rfl) hent
    obtain ⟨ua, ul, uc, rfl, hBd, hFok, hblk, hb4⟩ := hX_
    have hl1 := lt_of_row hS0.1
    have hl2 := lt_of_row hS0.2.1
    have hp4 := rangeS_keep2 hS0.2.2 hb4 (Nat.lt_of_lt_of_le hpb2 (by omega))
    refine hK _ _ ⟨keep hb4 hS0.1, keep hb4 hS0.2.1, hp4⟩ ?_
    simp only [Act.put, List.getElem_toArray, List.getElem_cons_succ, List.getElem_cons_zero, List.setIfInBounds_toArray, List.set_cons_succ, List.set_cons_zero]
    clear hK c
    replace hb := Below.after hb hb4
    replace hO := hO.keep hb4
    have hS4 : _ ∧ _ ∧ _ := ⟨keep hb4 hS0.1, keep hb4 hS0.2.1, hp4⟩
    have hsz4 := hb4.size
    clear hS0 hp4 hww hb4
    have hba : Below w4.heap.size w4 (w4.alloc (.cells #[.int .i64 fno, .int .i64 fty, .int .u64 (fnum : Int), .slice ua ul uc] 118)) := (Below.refl _ _).alloc (Nat.le_refl _) _
    have r5 := hp1_0 w4 (.cells #[.int .i64 fno, .int .i64 fty, .int .u64 (fnum : Int), .slice ua ul uc] 118)
    have hz5 := size_alloc1 w4 (.cells #[.int .i64 fno, .int .i64 fty, .int .u64 (fnum : Int), .slice ua ul uc] 118)
    refine wpAnyH_one (k := 9) (fuel := 2) (by kernel_rfl) rfl (by kernel_rfl) (fun K_ hK => ?_)
    refine wp_val_op (.slice (some ⟨w4.heap.size, 0, none⟩) 1 1) (w' := w4.alloc (.cells #[.int .i64 fno, .int .i64 fty, .int .u64 (fnum : Int), .slice ua ul uc] 118)) (by kernel_rfl) ?_
    have hS5 : _ ∧ _ ∧ _ := ⟨keep hba hS4.1, keep hba hS4.2.1, rangeS_keep2 hS4.2.2 hba (Nat.lt_of_lt_of_le hpb2 (by omega))⟩
    refine hK _ _ hS5 ?_
    simp only [Act.put, List.getElem_toArray, List.getElem_cons_succ, List.getElem_cons_zero, List.setIfInBounds_toArray, List.set_cons_succ, List.set_cons_zero]
    clear hK
    replace hO := hO.keep hba
    replace hBd := hBd.keep hba
    replace hb := Below.after hb hba
    clear hS4 hba
    generalize w4.alloc (.cells #[.int .i64 fno, .int .i64 fty, .int .u64 (fnum : Int), .slice ua ul uc] 118) = w5 at *
    obtain ⟨i0, hi, hz0, hz1, hz2⟩ := info48
    refine wpAnyH_one (k := 10) (fuel := 1) (by kernel_rfl) rfl (by kernel_rfl) (fun K_ hK => ?_)
    have hOk := hO.1
    rw [hfl.out] at hOk
    refine wp_append_nx (.tmp 17) (.tmp 26) 116 rfl w.heap.size 118 i0 (.agg #[.int .i64 0, .int .i64 0, .int .u64 0, .slice none 0 0]) 4 48 Tryz.underlying116 hi hz0 hz1 hz2 rfl (by decide) (.slice mo k mc) k (frs fs us2) rfl hOk ⟨w4.heap.size, 0, none⟩ 1 1 #[.int .i64 fno, .int .i64 fty, .int .u64 (fnum : Int), .slice ua ul uc].toList rfl rfl (fun j u hu => by rw [add_off, cell_of_row _ _ _ _ _ _ r5]; simpa using hu) (by simp [Value.oneCell']) (by unfold maxLen; omega) (by omega) hb.size (fun v' w6 h1 h2 h3 => ?_)
    have hk5 : ∀ q, q < w5.heap.size → (Value.slice mo k mc).ownBlock ≠ some q → w6.heap[q]? = w5.heap[q]? := fun q hq1 hq2 => h2.block q hq1 (fun e => hq2 e.symm)
    have hl1 := lt_of_row hS5.1
    have hl2 := lt_of_row hS5.2.1
    have e1 := hk5 _ hl1 (fun e => by have := (A8.out _ e).2; omega)
    have e2 := hk5 _ hl2 A9.out
    have e3 := hk5 pb (by omega) (fun e => by have := (A8.out _ e).1; omega)
    have hS6 : _ ∧ _ ∧ _ := ⟨e1.trans hS5.1, e2.trans hS5.2.1, range_same hS5.2.2 e3⟩
    refine hK _ _ hS6 ?_
    simp only [Act.put, List.getElem_toArray, List.getElem_cons_succ, List.getElem_cons_zero, List.setIfInBounds_toArray, List.set_cons_succ, List.set_cons_zero]
    clear hK
    have hB6 : Below w.heap.size w w6 := hb.grown h2 hb.size (fun q hq => (A8.out q hq).1)
    have hne6 : v'.ownBlock ≠ some w.heap.size := fun e => by
     rcases h3 with q | ⟨q, q1, q2⟩
     ·exact A9.out (q.symm.trans e)
     ·rw [q1] at e
      injection e with e
      omega
    have rV6 := hS6.2.1
    have hF6 := hO.snoc hBd hFok (fun a ea => ⟨by have := (hblk a ea).1; omega, fun eq => by have := A8.out _ eq; have := (hblk a ea).2; omega⟩) (by rw [hfl.out]; exact h1) h2 h3
    obtain ⟨vo, vc, rfl⟩ := own_slice h1
    have B1 := hide hF6
    have B2 := hide hB6
    have B3 := hide hne6
    have B4 := hide rV6
    clear h1 h2 h3 hF6 hB6 hne6 rV6 hS5 hk5 e1 e2 e3 hO hOk hBd hFok hblk hb r5 hi hz0 hz1 hz2
    refine wpAnyH_one (k := 11) (fuel := 0) (by kernel_rfl) rfl (by kernel_rfl) (fun K_ hK => ?_)
    refine wp_pure_op (.slice vo (k + 1) vc) (by kernel_rfl) ?_
    refine hK _ _ hS6 ?_
    simp only [Act.put, List.getElem_toArray, List.getElem_cons_succ, List.getElem_cons_zero, List.setIfInBounds_toArray, List.set_cons_succ, List.set_cons_zero]
    clear hK hS6
    refine wpAnyH_done (by kernel_rfl) ?_ _
    go_wp2_with (fail)
    refine ⟨⟨k + 1, us2 ++ [.slice ua ul uc], by omega, by go_num, by rw [hst.out]; exact B1.out, B2.out, B4.out, B3.out⟩, ?_⟩
    simp [intOf]; omega
   ·have hd : decide ((k : Int) < (ts.length : Int)) = false := by simp; omega
    obtain rfl : k = ts.length := by omega
    rw [List.take_length, hpe.out] at hF hfl
    have cX := cE.out _ _ (hF.fds (by have := hfl.out; omega))
    have A1 := hide hb
    clear h hpr hfl hO rV hb hF cE hvt hsl hwa hps hpl hpe
    generalize hJJ : eout (fdT ts ps) = JJ at *
    generalize eer (fdT ts ps) = JE at *
    replace hJJ := hide hJJ
    go_wp2_with (fail)
    refine cX.mono ?_
    rintro e_ w1 ⟨u, rfl, hU, hb1⟩
    have hU2 := own_down hU A1.out.size
    have hb2 := Below.after A1.out hb1
    obtain ⟨ua, uc, rfl⟩ := slen_own hU2
    clear cX hU hb1
    go_wp2_with (fail)
    go_ret
    exact ⟨_, rfl, by rw [hJJ.out]; exact hU2, hb2⟩
end Go.Proofs.YtmmlkfkpblokiaaGreatDoor
namespace Go.Proofs.YtmmlkfkpblokiaaGreatDoor
set_option maxRecDepth 100000
open Go Go.RowKit Go.Sort
attribute [local go_sem] setCell_drewN alloc_drewN
end Go.Proofs.YtmmlkfkpblokiaaGreatDoor
namespace Go.Proofs.YtmmlkfkpblokiaaGreatDoor
set_option maxRecDepth 100000
open Go Go.RowKit Go.Sort
attribute [local go_sem] setCell_drewN alloc_drewN
section
variable {P : Program} {ops : Array Oper} {Q : Exit → Act → World → Prop} {md : Region.Mode} {S : World → Prop}
end
end Go.Proofs.YtmmlkfkpblokiaaGreatDoor
namespace Go.Proofs.YtmmlkfkpblokiaaGreatDoor
set_option maxRecDepth 100000
open Go Go.RowKit Go.Sort
/-! What is cut short. -/
end Go.Proofs.YtmmlkfkpblokiaaGreatDoor
namespace Go.Proofs.YtmmlkfkpblokiaaGreatDoor
set_option maxRecDepth 100000
open Go Go.RowKit Go.Sort
/-! Parts of a list of fields. -/
theorem gf_take (fs : List Fd) (k i : Nat) (h : i < k) : gf (fs.take k) i = gf fs i := by
 rw [gf, gf, List.getD_eq_getElem?_getD, List.getD_eq_getElem?_getD, List.getElem?_take_of_lt h]
theorem Fds.take {W : World} {ao : Option Addr} {cap l : Nat} {fs : List Fd} (h : Fds W (.slice ao l cap) fs) (k : Nat) (hk : k ≤ fs.length) : Fds W (.slice ao k cap) (fs.take k) := by
 obtain ⟨ao', cap', e, h1, h2, h3, h4⟩ := h
 cases e
 have hl : (fs.take k).length = k := by rw [List.length_take, Nat.min_eq_left hk]
 refine ⟨ao, cap, by rw [hl], by omega, by omega, h3, fun i hi => ?_⟩
 rw [hl] at hi
 rw [gf_take fs k i hi]
 exact h4 i (by omega)
end Go.Proofs.YtmmlkfkpblokiaaGreatDoor
namespace Go.Proofs.YtmmlkfkpblokiaaGreatDoor
set_option maxRecDepth 100000
open Go Go.RowKit Go.Sort
attribute [local go_sem] setCell_drewN alloc_drewN
theorem Fts.at {W : World} {b : Nat} {v : Value} {us : List Value} {fs : List Fd} (h : Fts W b v us fs) {i : Nat} (hi : i < fs.length) : ∃ g cap, v = .slice (some ⟨g, 0, none⟩) fs.length cap ∧ b ≤ g ∧ g < W.heap.size ∧ W.rangeAt g (i * 4) (frow (gf fs i) (gv us i)) := by
 obtain ⟨h1, h2, h3, _⟩ := h
 have h1' := h1
 obtain ⟨_, ⟨rfl, h0⟩ | ⟨g, cap, cur, rfl, hb, hg, hn, hm, hs, ht⟩⟩ := h1'
 ·omega
 ·refine ⟨g, cap, rfl, hb, lt_of_row hg, fun j x hx => ?_⟩
  have hj : j < 4 := by have := (List.getElem?_eq_some_iff.1 hx).1; exact this
  have := h1.cells (g := g) rfl (i * 4 + j) x (by rw [frs_at fs us i j h2 hi hj]; exact hx)
  rw [addr_add, Nat.zero_add] at this
  exact this
end Go.Proofs.YtmmlkfkpblokiaaGreatDoor
namespace Go.Proofs.YtmmlkfkpblokiaaGreatDoor
set_option maxRecDepth 100000
open Go Go.RowKit Go.Sort
attribute [local go_sem] setCell_drewN alloc_drewN
theorem But.setRow {g : Nat} (w : World) (cs : Array Value) : But g w (w.setRow g cs) := ⟨rfl, rfl, rfl, by simp, fun k _ hne => setRow_other w g k cs hne⟩
end Go.Proofs.YtmmlkfkpblokiaaGreatDoor

