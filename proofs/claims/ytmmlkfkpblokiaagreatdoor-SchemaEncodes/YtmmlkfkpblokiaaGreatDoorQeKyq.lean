import Derived.Test.YtmmlkfkpblokiaaGreatDoorQeKyj
import Derived.Test.YtmmlkfkpblokiaaGreatDoorQeJrx
import Derived.Test.YtmmlkfkpblokiaaGreatDoorQeKtv
import Derived.ProofKit
import Derived.OpenShut
import Derived.ChangeOld
import Derived.Deep.Slices
import Derived.Test.YtmmlkfkpblokiaaGreatDoorQeXdb
import Derived.Test.YtmmlkfkpblokiaaGreatDoorRows
import Derived.Test.YtmmlkfkpblokiaaGreatDoorProg
import Derived.Lib.LaidU8T
import Derived.Lib.LaidIn
import Derived.Laws.EntriesVeiled
namespace Go.Proofs.YtmmlkfkpblokiaaGreatDoor
set_option maxRecDepth 100000
open Go Go.RowKit Go.Sort
attribute [local go_sem] setCell_drewN alloc_drewN
theorem Own.setAt9 {W : World} {b0 : Nat} {v : Value} {d : List B} (h : Own W b0 v d) {j : Nat} (hj : j < d.length) : ∃ b off uc, v = .slice (some ⟨b, off, none⟩) d.length uc ∧ b0 ≤ b ∧ b < W.heap.size ∧ W.cell? ⟨b, off + j, none⟩ = some (.int .u8 (bv (gb d j))) ∧ W.frozen? ⟨b, off + j, none⟩ = false ∧ ∀ z, Own (W.setCell ⟨b, off + j, none⟩ (.int .u8 (bv z))) b0 v (d.set j z) ∧ W.grownBy (W.setCell ⟨b, off + j, none⟩ (.int .u8 (bv z))) v.ownBlock := by
 obtain ⟨h1, ⟨rfl, h0⟩ | ⟨g, cap, cur, rfl, hbg, hg, hn, hm, hs, ht⟩⟩ := h
 ·omega
 ·refine ⟨g, 0, cap, rfl, hbg, lt_of_row hg, ?_, by rw [Nat.zero_add]; exact row_frozen hg j, fun z => ⟨?_, ?_⟩⟩
  ·have this : (cur.toList.take (d.length * 1))[j]? = some (Value.int .u8 (bv (gb d j))) := by
    rw [ht, List.getElem?_map, bl, List.getElem?_map, List.getElem?_eq_getElem hj, gb, List.getD_eq_getElem?_getD, List.getElem?_eq_getElem hj]; rfl
   rw [List.getElem?_take_of_lt (by omega), Array.getElem?_toList] at this
   rw [Nat.zero_add, cell_of_row _ _ _ _ _ _ hg]
   exact this
  ·have hq := heap_setCell_same W g j cur _ (.int .u8 (bv z)) hg
   rw [Nat.zero_add]
   unfold Own
   rw [List.length_set]
   refine ⟨by simp [bl], .inr ⟨g, cap, _, rfl, hbg, hq, hn, hm, by rw [Array.size_setIfInBounds]; exact hs, ?_⟩⟩
   rw [Array.toList_setIfInBounds, List.take_set, ht, bl, bl, List.map_set, List.map_set]
  ·rw [Nat.zero_add]
   exact grown_setCell (World.grownBy.refl _ _)
theorem infB9 : ∃ i, Tryz.prog.info? 5 = some i ∧ i.zero = some (.int .u8 0) ∧ i.size = 1 ∧ i.bytes = 1 := ⟨_, rfl, rfl, rfl, rfl⟩
theorem wpList_append_q {w : World} {ops : Array Oper} {rest : List Oper} {o : Oper} {a : Act} {Q : Exit → Act → World → Prop} (hgd : o.guard = none) (s x : Operand)
 (ho : o.op = .call { callee := .builtin .append, args := #[s, x], argTypes := #[24, 24] })
 (base : Nat) (v : Value) (n : Nat) (xs : List Value) (hs : a.eval s = v) (hO : w.ownsRow base 5 1 v n xs) (g m : Nat) (cs : List Value) (hx : a.eval x = .slice (some ⟨g, 0, none⟩) m m) (hcl : cs.length = m)
 (hnews : ∀ j y, cs[j]? = some y → w.cell? ((⟨g, 0, none⟩ : Addr).add j) = some y) (h1 : ∀ u ∈ cs, u.oneCell' = true) (hn : n + m ≤ 140737488355328) (hbase : base ≤ w.heap.size)
 (h : ∀ v' w', w'.ownsRow base 5 1 v' (n + m) (xs ++ cs) → w.grownBy w' v.ownBlock → wpList Tryz.prog ops Q rest (a.put o.dst v') w') : wpList Tryz.prog ops Q (o :: rest) a w := by
 obtain ⟨i0, hi, hz0, hz1, hz2⟩ := infB9
 exact wpList_plain hgd fun _ hK => wp_append_nx s x 24 ho base 5 i0 (.int .u8 0) 1 1 Tryz.underlying24 hi hz0 hz1 hz2 rfl (by decide) v n xs hs hO ⟨g, 0, none⟩ m m cs hx (by omega) hnews h1 (by unfold maxLen; omega) (by omega) hbase (fun v' w' h1 h2 _ => hK _ _ (h v' w' h1 h2))
theorem bys_nilq (W : World) : Bys W (.slice none 0 0) [] := by
 refine ⟨none, 0, rfl, by decide, fun j hj => absurd hj (Nat.not_lt_zero _), ?_⟩
 simp
theorem enT_lenq (ts : List Slt) (X : VT) : (enT ts X).length ≤ 4194304 := eout_len _
theorem rdc_keep9 {W V : World} {g : Nat} {ts : List Slt} (h : Rdc W g ts) (hb : Below W.heap.size W V) : Rdc V g ts := by
 obtain ⟨u, h1, h2⟩ := h
 exact ⟨u, keep hb h1, h2.keep hb⟩
set_option maxRecDepth 100000 in
set_option maxHeartbeats 16000000 in
theorem encodes_any {v : Value} {ts : List Slt} {x : VR} {X : VT} (W : World) (hE : Ety W) (hT : Lib.Utf8Tabs 2 3 W) (hS : Slo W v ts) (hX : VtM W (fun _ => True) x X) : Calls Tryz.prog 4 #[v, .agg (vrv x)] W fun e W' => e = .returned (.bool true) ∧ Below W.heap.size W W' := by
 obtain ⟨ao, cap, rfl⟩ := hS.form
 obtain ⟨xn, xda, xdl, xdc, xpa, xpl, xpc⟩ := x
 unfold vrv vrw
 have hb := (Below.refl W.heap.size W).alloc (Nat.le_refl _) (.cells #[.int .u64 (xn : Int), .slice xda xdl xdc, .slice xpa xpl xpc] 27)
 have rV := hp1_0 W (.cells #[.int .u64 (xn : Int), .slice xda xdl xdc, .slice xpa xpl xpc] 27)
 replace hE := hE.keep hb rfl
 replace hT := Utf8Tabs_below hT hb
 replace hS := hS.keep hb
 replace hX := hX.blw hb
 go_enter Tryz.func4, Tryz.ntmps4
 go_wp2_with (fail)
 generalize W.alloc (.cells #[.int .u64 (xn : Int), .slice xda xdl xdc, .slice xpa xpl xpc] 27) = w0 at *
 have cBs := l_bigSlots hS
 obtain ⟨bs, hbs⟩ : ∃ bs, decide (slL ts 10000 < 0) = bs := ⟨_, rfl⟩
 rw [hbs] at cBs
 refine (cBs).mono ?_
 rintro e_ w1 ⟨rfl, hb1⟩
 replace hE := hE.keep hb1 rfl
 replace hT := Utf8Tabs_below hT hb1
 replace hS := hS.keep hb1
 replace hX := hX.blw hb1
 replace rV := keep hb1 rV
 replace hb := Below.after hb hb1
 clear hb1
 clear cBs
 cases bs
 rotate_left
 ·go_wp2_with (first | (refine wpList_load_want rfl 27 _ rfl W.heap.size rfl 27 #[.int .u64 (xn : Int), .slice xda xdl xdc, .slice xpa xpl xpc] (0, 0) _ rV Tryz.underlying27 rfl infoV ?_) | fail)
  go_ret
  exact ⟨rfl, hb⟩
 go_wp2_with (first | (refine wpList_load_want rfl 27 _ rfl W.heap.size rfl 27 #[.int .u64 (xn : Int), .slice xda xdl xdc, .slice xpa xpl xpc] (0, 0) _ rV Tryz.underlying27 rfl infoV ?_) | fail)
 have cBv := a_bigValue _ hX
 obtain ⟨bv, hbv⟩ : ∃ bv, bgV X = bv := ⟨_, rfl⟩
 rw [hbv] at cBv
 unfold vrv vrw at cBv
 refine (cBv).mono ?_
 rintro e_ w2 ⟨rfl, hb2⟩
 replace hE := hE.keep hb2 rfl
 replace hT := Utf8Tabs_below hT hb2
 replace hS := hS.keep hb2
 replace hX := hX.blw hb2
 replace rV := keep hb2 rV
 replace hb := Below.after hb hb2
 clear hb2
 clear cBv
 cases bv
 rotate_left
 ·go_wp2_with (first | (refine wpList_load_want rfl 27 _ rfl W.heap.size rfl 27 #[.int .u64 (xn : Int), .slice xda xdl xdc, .slice xpa xpl xpc] (0, 0) _ rV Tryz.underlying27 rfl infoV ?_) | fail)
  go_ret
  exact ⟨rfl, hb⟩
 have hbig : 0 ≤ slL ts 10000 := by simpa using hbs
 have hbg2 : 0 ≤ vlf X 10000 := by unfold bgV at hbv; simpa using hbv
 clear hbs hbv
 replace hbig := hide hbig
 replace hbg2 := hide hbg2
 go_wp2_with (first | (refine wpList_load_want rfl 27 _ rfl W.heap.size rfl 27 #[.int .u64 (xn : Int), .slice xda xdl xdc, .slice xpa xpl xpc] (0, 0) _ rV Tryz.underlying27 rfl infoV ?_) | fail)
 refine (l_made hS hbig.out w2 (Below.refl _ _)).mono ?_
 rintro e_ w3 ⟨hbm, hor⟩
 replace hE := hE.keep hbm rfl
 replace hT := Utf8Tabs_below hT hbm
 replace hS := hS.keep hbm
 replace hX := hX.blw hbm
 replace rV := keep hbm rV
 replace hb := Below.after hb hbm
 clear hbm
 rcases hor with ⟨hz, gc, gr, u, rfl, hC, hgr, hU⟩ | ⟨hz, rfl⟩
 rotate_left
 ·clear hz
  go_wp2_with (first | (refine wpList_load_want rfl 27 _ rfl W.heap.size rfl 27 #[.int .u64 (xn : Int), .slice xda xdl xdc, .slice xpa xpl xpc] (0, 0) _ rV Tryz.underlying27 rfl infoV ?_) | fail)
  go_ret
  exact ⟨rfl, hb⟩
 have hR : Rdc w3 gr ts := ⟨u, hgr, hU⟩
 clear hgr hU
 have ok := vld_ok hz
 replace hz := hide hz
 replace ok := hide ok
 go_wp2_with (first | (refine wpList_load_want rfl 27 _ rfl W.heap.size rfl 27 #[.int .u64 (xn : Int), .slice xda xdl xdc, .slice xpa xpl xpc] (0, 0) _ rV Tryz.underlying27 rfl infoV ?_) | fail)
 have cH := l_handV hX 10000 (Int.le_refl _) hbg2.out w3 (Below.refl _ _)
 unfold vrv vrw at cH
 refine cH.mono ?_
 rintro e_ w20 ⟨y, rfl, hbh, hY⟩
 clear cH
 replace hE := hE.keep hbh rfl
 replace hT := Utf8Tabs_below hT hbh
 replace hS := hS.keep hbh
 replace hX := hX.blw hbh
 replace rV := keep hbh rV
 replace hb := Below.after hb hbh
 replace hC := hC.keep hbh
 replace hR := rdc_keep9 hR hbh
 clear hbh
 obtain ⟨yn, yda, ydl, ydc, ypa, ypl, ypc⟩ := y
 have hba := (Below.refl w20.heap.size w20).alloc (Nat.le_refl _) (.cells #[.int .u64 (yn : Int), .slice yda ydl ydc, .slice ypa ypl ypc] 27)
 have rY := hp1_0 w20 (.cells #[.int .u64 (yn : Int), .slice yda ydl ydc, .slice ypa ypl ypc] 27)
 replace hY := hY.keep hba.size (fun b h1 h2 => ⟨hba.block b h1, h2⟩)
 dsimp only
 replace hE := hE.keep hba rfl
 replace hT := Utf8Tabs_below hT hba
 replace hS := hS.keep hba
 replace hX := hX.blw hba
 replace rV := keep hba rV
 replace hb := Below.after hb hba
 replace hC := hC.keep hba
 replace hR := rdc_keep9 hR hba
 clear hba
 go_upto_region 7 with (fail)
 generalize w20.alloc (.cells #[.int .u64 (yn : Int), .slice yda ydl ydc, .slice ypa ypl ypc] 27) = w21 at *
 generalize w20.heap.size = gy at *
 obtain ⟨F, hF⟩ : ∃ F, ckT utD flD ts X 1 = F := ⟨_, rfl⟩
 have cK := a_EncodeT plo8 ok.out.2.2.1 _ _ X _ hT hC hY.vtm ok.out.2.2.2.2
 rw [hF] at cK
 unfold vrv vrw at cK
 dsimp only at cK
 have hEN := hide (enT_lenq ts X)
 generalize hEE : enT ts X = E at *
 replace hEE := hide hEE
 go_wp2_with (first | (refine wpList_load_want rfl 27 _ rfl W.heap.size rfl 27 #[.int .u64 (xn : Int), .slice xda xdl xdc, .slice xpa xpl xpc] (0, 0) _ rV Tryz.underlying27 rfl infoV ?_) | (refine wpList_load_want rfl 27 _ rfl gy rfl 27 #[.int .u64 (yn : Int), .slice yda ydl ydc, .slice ypa ypl ypc] (0, 0) _ rY Tryz.underlying27 rfl infoV ?_) | fail)
 have hXl := hX.lim
 have hYl := hY.keep (Nat.le_refl _) (T := fun q => q < w21.heap.size) (fun q h1 _ => ⟨rfl, h1⟩)
 have hVl := lt_of_row rV
 have hYlt := lt_of_row rY
 have hA : Below w21.heap.size w21 w21 := Below.refl _ _
 cases F with
 | none =>
  refine (cK).mono ?_
  rintro e_ w4 ⟨⟨ua, rfl, hOa⟩, hb4⟩
  replace hE := hE.keep hb4 rfl
  replace hT := Utf8Tabs_below hT hb4
  replace hS := hS.keep hb4
  replace hX := hX.blw hb4
  replace rV := keep hb4 rV
  replace hb := Below.after hb hb4
  replace hC := hC.keep hb4
  replace hR := rdc_keep9 hR hb4
  replace rY := keep hb4 rY
  replace hY := hY.keep (hb4).size (fun q_ h1_ h2_ => ⟨(hb4).block q_ h1_, h2_⟩)
  replace hA := Below.after hA hb4
  replace hXl := hXl.blw hb4
  replace hYl := hYl.keep (hb4).size (fun q_ h1_ h2_ => ⟨(hb4).block q_ h1_, h2_⟩)
  clear hb4
  obtain ⟨aa, ac, rfl⟩ := slen_own hOa
  have hla0 := hide (own_high_row hOa)
  clear cK
  have cK := a_EncodeT plo8 ok.out.2.2.1 _ _ X _ hT hC hY.vtm ok.out.2.2.2.2
  rw [hF, hEE.out] at cK
  unfold vrv vrw at cK
  dsimp only at cK
  go_wp2_with (first | (refine wpList_load_want rfl 27 _ rfl W.heap.size rfl 27 #[.int .u64 (xn : Int), .slice xda xdl xdc, .slice xpa xpl xpc] (0, 0) _ rV Tryz.underlying27 rfl infoV ?_) | (refine wpList_load_want rfl 27 _ rfl gy rfl 27 #[.int .u64 (yn : Int), .slice yda ydl ydc, .slice ypa ypl ypc] (0, 0) _ rY Tryz.underlying27 rfl infoV ?_) | fail)
  refine (cK).mono ?_
  rintro e_ w5 ⟨⟨ub, rfl, hOb⟩, hb5⟩
  replace hE := hE.keep hb5 rfl
  replace hT := Utf8Tabs_below hT hb5
  replace hS := hS.keep hb5
  replace hX := hX.blw hb5
  replace rV := keep hb5 rV
  replace hb := Below.after hb hb5
  replace hC := hC.keep hb5
  replace hR := rdc_keep9 hR hb5
  replace rY := keep hb5 rY
  replace hY := hY.keep (hb5).size (fun q_ h1_ h2_ => ⟨(hb5).block q_ h1_, h2_⟩)
  replace hA := Below.after hA hb5
  replace hXl := hXl.blw hb5
  replace hYl := hYl.keep (hb5).size (fun q_ h1_ h2_ => ⟨(hb5).block q_ h1_, h2_⟩)
  replace hOa := hOa.keep hb5
  clear hb5
  obtain ⟨ba, bc, rfl⟩ := slen_own hOb
  have hla1 := hide (own_high_row hOa)
  clear cK
  have cR := r_EncodeT hz.out _ _ X _ hR hX.lim (Nat.le_refl _) hF
  rw [hEE.out] at cR
  unfold vrv vrw at cR
  dsimp only at cR
  go_wp2_with (first | (refine wpList_load_want rfl 27 _ rfl W.heap.size rfl 27 #[.int .u64 (xn : Int), .slice xda xdl xdc, .slice xpa xpl xpc] (0, 0) _ rV Tryz.underlying27 rfl infoV ?_) | (refine wpList_load_want rfl 27 _ rfl gy rfl 27 #[.int .u64 (yn : Int), .slice yda ydl ydc, .slice ypa ypl ypc] (0, 0) _ rY Tryz.underlying27 rfl infoV ?_) | fail)
  refine (cR).mono ?_
  rintro e_ w6 ⟨uw, rfl, hw, hb6⟩
  replace hE := hE.keep hb6 rfl
  replace hT := Utf8Tabs_below hT hb6
  replace hS := hS.keep hb6
  replace hX := hX.blw hb6
  replace rV := keep hb6 rV
  replace hb := Below.after hb hb6
  replace hC := hC.keep hb6
  replace hR := rdc_keep9 hR hb6
  replace rY := keep hb6 rY
  replace hY := hY.keep (hb6).size (fun q_ h1_ h2_ => ⟨(hb6).block q_ h1_, h2_⟩)
  replace hA := Below.after hA hb6
  replace hXl := hXl.blw hb6
  replace hYl := hYl.keep (hb6).size (fun q_ h1_ h2_ => ⟨(hb6).block q_ h1_, h2_⟩)
  replace hOa := hOa.keep hb6
  replace hOb := hOb.keep hb6
  clear hb6
  obtain ⟨wa, wc, rfl⟩ := slen_own hw
  clear cR
  have hba := (Below.refl w6.heap.size w6).alloc (Nat.le_refl _) (.cells #[.int .i64 0, .int .i64 0, .int .i64 0] 41)
  have rQ := hp1_0 w6 (.cells #[.int .i64 0, .int .i64 0, .int .i64 0] 41)
  replace hE := hE.keep hba rfl
  replace hT := Utf8Tabs_below hT hba
  replace hS := hS.keep hba
  replace hX := hX.blw hba
  replace rV := keep hba rV
  replace hb := Below.after hb hba
  replace hC := hC.keep hba
  replace hR := rdc_keep9 hR hba
  replace rY := keep hba rY
  replace hY := hY.keep (hba).size (fun q_ h1_ h2_ => ⟨(hba).block q_ h1_, h2_⟩)
  replace hA := Below.after hA hba
  replace hXl := hXl.blw hba
  replace hYl := hYl.keep (hba).size (fun q_ h1_ h2_ => ⟨(hba).block q_ h1_, h2_⟩)
  replace hOa := hOa.keep hba
  replace hOb := hOb.keep hba
  replace hw := hw.keep hba
  clear hba
  go_upto_region 10 with (fail)
  generalize w6.alloc (.cells #[.int .i64 0, .int .i64 0, .int .i64 0] 41) = w30 at *
  generalize w6.heap.size = gq at *
  have cQ := l_faulty8_nil 0 0 w30
  go_wp2_with (first | (refine wpList_load_want rfl 27 _ rfl W.heap.size rfl 27 #[.int .u64 (xn : Int), .slice xda xdl xdc, .slice xpa xpl xpc] (0, 0) _ rV Tryz.underlying27 rfl infoV ?_) | (refine wpList_load_want rfl 27 _ rfl gy rfl 27 #[.int .u64 (yn : Int), .slice yda ydl ydc, .slice ypa ypl ypc] (0, 0) _ rY Tryz.underlying27 rfl infoV ?_) | (refine wpList_load_want rfl 41 _ rfl gq rfl 41 #[.int .i64 0, .int .i64 0, .int .i64 0] (0, 0) _ rQ Tryz.underlying41 rfl infoFt ?_) | fail)
  refine (cQ).mono ?_
  rintro e_ w31 ⟨rfl, hb31⟩
  replace hE := hE.keep hb31 rfl
  replace hT := Utf8Tabs_below hT hb31
  replace hS := hS.keep hb31
  replace hX := hX.blw hb31
  replace rV := keep hb31 rV
  replace hb := Below.after hb hb31
  replace hC := hC.keep hb31
  replace hR := rdc_keep9 hR hb31
  replace rY := keep hb31 rY
  replace hY := hY.keep (hb31).size (fun q_ h1_ h2_ => ⟨(hb31).block q_ h1_, h2_⟩)
  replace hA := Below.after hA hb31
  replace hXl := hXl.blw hb31
  replace hYl := hYl.keep (hb31).size (fun q_ h1_ h2_ => ⟨(hb31).block q_ h1_, h2_⟩)
  replace hOa := hOa.keep hb31
  replace hOb := hOb.keep hb31
  replace hw := hw.keep hb31
  replace rQ := keep hb31 rQ
  clear hb31
  clear cQ
  have cQ := l_faulty8_nil 0 0 w31
  go_wp2_with (first | (refine wpList_load_want rfl 27 _ rfl W.heap.size rfl 27 #[.int .u64 (xn : Int), .slice xda xdl xdc, .slice xpa xpl xpc] (0, 0) _ rV Tryz.underlying27 rfl infoV ?_) | (refine wpList_load_want rfl 27 _ rfl gy rfl 27 #[.int .u64 (yn : Int), .slice yda ydl ydc, .slice ypa ypl ypc] (0, 0) _ rY Tryz.underlying27 rfl infoV ?_) | (refine wpList_load_want rfl 41 _ rfl gq rfl 41 #[.int .i64 0, .int .i64 0, .int .i64 0] (0, 0) _ rQ Tryz.underlying41 rfl infoFt ?_) | fail)
  refine (cQ).mono ?_
  rintro e_ w32 ⟨rfl, hb32⟩
  replace hE := hE.keep hb32 rfl
  replace hT := Utf8Tabs_below hT hb32
  replace hS := hS.keep hb32
  replace hX := hX.blw hb32
  replace rV := keep hb32 rV
  replace hb := Below.after hb hb32
  replace hC := hC.keep hb32
  replace hR := rdc_keep9 hR hb32
  replace rY := keep hb32 rY
  replace hY := hY.keep (hb32).size (fun q_ h1_ h2_ => ⟨(hb32).block q_ h1_, h2_⟩)
  replace hA := Below.after hA hb32
  replace hXl := hXl.blw hb32
  replace hYl := hYl.keep (hb32).size (fun q_ h1_ h2_ => ⟨(hb32).block q_ h1_, h2_⟩)
  replace hOa := hOa.keep hb32
  replace hOb := hOb.keep hb32
  replace hw := hw.keep hb32
  replace rQ := keep hb32 rQ
  clear hb32
  clear cQ
  have kA := conv_byT (hOa.bysB (by have := hEN.out; omega)).1
  have kB := conv_byT (hOb.bysB (by have := hEN.out; omega)).1
  have kW := conv_byT (hw.bysB (by have := hEN.out; omega)).1
  have cL := l_leftV hY _ _ hX w32 (Below.refl _ _)
  unfold vrv vrw at cL
  dsimp only at cL
  go_wp2_with (first | (refine wpList_load_want rfl 27 _ rfl W.heap.size rfl 27 #[.int .u64 (xn : Int), .slice xda xdl xdc, .slice xpa xpl xpc] (0, 0) _ rV Tryz.underlying27 rfl infoV ?_) | (refine wpList_load_want rfl 27 _ rfl gy rfl 27 #[.int .u64 (yn : Int), .slice yda ydl ydc, .slice ypa ypl ypc] (0, 0) _ rY Tryz.underlying27 rfl infoV ?_) | (refine wpList_load_want rfl 41 _ rfl gq rfl 41 #[.int .i64 0, .int .i64 0, .int .i64 0] (0, 0) _ rQ Tryz.underlying41 rfl infoFt ?_) | fail)
  refine (cL).mono ?_
  rintro e_ w33 ⟨rfl, hb33⟩
  replace hE := hE.keep hb33 rfl
  replace hT := Utf8Tabs_below hT hb33
  replace hS := hS.keep hb33
  replace hX := hX.blw hb33
  replace rV := keep hb33 rV
  replace hb := Below.after hb hb33
  replace hC := hC.keep hb33
  replace hR := rdc_keep9 hR hb33
  replace rY := keep hb33 rY
  replace hY := hY.keep (hb33).size (fun q_ h1_ h2_ => ⟨(hb33).block q_ h1_, h2_⟩)
  replace hA := Below.after hA hb33
  replace hXl := hXl.blw hb33
  replace hYl := hYl.keep (hb33).size (fun q_ h1_ h2_ => ⟨(hb33).block q_ h1_, h2_⟩)
  replace hOa := hOa.keep hb33
  replace hOb := hOb.keep hb33
  replace hw := hw.keep hb33
  replace rQ := keep hb33 rQ
  clear hb33
  clear cL
  go_wp2_with (first | (refine wpList_load_want rfl 27 _ rfl W.heap.size rfl 27 #[.int .u64 (xn : Int), .slice xda xdl xdc, .slice xpa xpl xpc] (0, 0) _ rV Tryz.underlying27 rfl infoV ?_) | (refine wpList_load_want rfl 27 _ rfl gy rfl 27 #[.int .u64 (yn : Int), .slice yda ydl ydc, .slice ypa ypl ypc] (0, 0) _ rY Tryz.underlying27 rfl infoV ?_) | (refine wpList_load_want rfl 41 _ rfl gq rfl 41 #[.int .i64 0, .int .i64 0, .int .i64 0] (0, 0) _ rQ Tryz.underlying41 rfl infoFt ?_) | fail)
  have hszA := hide hA.size
  go_loopw [15] (fun i wr => ∃ (m : Nat) (l : List B), m ≤ E.length ∧ i = .int .i64 m ∧ l.length = E.length ∧ Own wr w21.heap.size (.slice aa E.length ac) l ∧ w33.heap.size ≤ wr.heap.size ∧ (∀ q, q < w33.heap.size → (Value.slice aa E.length ac).ownBlock ≠ some q → wr.heap[q]? = w33.heap[q]?) ∧ w33.grownBy wr (Value.slice aa E.length ac).ownBlock) (fun i _ => E.length - (intOf i).toNat)
  case atStart => exact ⟨0, E, by omega, rfl, rfl, hOa, Nat.le_refl _, fun _ _ _ => rfl, World.grownBy.refl _ _⟩
  case round =>
   obtain ⟨m, l, hm, rfl, hll, hOl, hsz, hkp, hgr⟩ := hrel
   by_cases hlt : m < E.length
   ·have hd : decide ((m : Int) < (E.length : Int)) = true := by simp; omega
    have hd3 : (m : Int) < (E.length : Int) := by omega
    have hEL := hEN.out
    obtain ⟨bb, of2, uc2, hve, hb0, hbs, hcell, hfz, hset⟩ := hOl.setAt9 (j := m) (by omega)
    rw [hll] at hve
    injection hve with e1 e2 e3
    subst e1
    have hs2 := hset 238#8
    have hob : (Value.slice (some ⟨bb, of2, none⟩) E.length ac).ownBlock = some bb := rfl
    go_wp2_with (fail)
    refine ⟨⟨m + 1, l.set m 238#8, by omega, by go_num, by rw [List.length_set]; exact hll, hs2.1, Nat.le_trans hsz hs2.2.size, fun q h1 h2 => (hs2.2.block q (by omega) (fun e => h2 e.symm)).trans (hkp q h1 h2), hgr.trans hs2.2⟩, ?_⟩
    simp [intOf]; omega
   ·have hd : decide ((m : Int) < (E.length : Int)) = false := by simp; omega
    have hEL := hEN.out
    obtain rfl : m = E.length := by omega
    have hba := (Below.refl wr.heap.size wr).alloc (Nat.le_refl _) (.cells #[.int .u8 221, .int .u8 221, .int .u8 221, .int .u8 221, .int .u8 221, .int .u8 221, .int .u8 221, .int .u8 221] 5)
    have r5 := hp1_0 wr (.cells #[.int .u8 221, .int .u8 221, .int .u8 221, .int .u8 221, .int .u8 221, .int .u8 221, .int .u8 221, .int .u8 221] 5)
    have hOl2 := hOl.keep hba
    have hnews : ∀ (j : Nat) (x : Value), [.int .u8 221, .int .u8 221, .int .u8 221, .int .u8 221, .int .u8 221, .int .u8 221, .int .u8 221, .int .u8 221][j]? = some x → (wr.alloc (.cells #[.int .u8 221, .int .u8 221, .int .u8 221, .int .u8 221, .int .u8 221, .int .u8 221, .int .u8 221, .int .u8 221] 5)).cell? ((⟨wr.heap.size, 0, none⟩ : Addr).add j) = some x := fun j u hu => by rw [add_off, cell_of_row _ _ _ _ _ _ r5]; simpa using hu
    have hszB : w21.heap.size ≤ (wr.alloc (.cells #[.int .u8 221, .int .u8 221, .int .u8 221, .int .u8 221, .int .u8 221, .int .u8 221, .int .u8 221, .int .u8 221] 5)).heap.size := by have := hba.size; have := hszA.out; omega
    go_wp2_with (first | (at_builtin; refine wpList_append_q rfl (.tmp 94) (.tmp 95) rfl w21.heap.size (.slice aa E.length ac) l.length _ rfl hOl2 wr.heap.size 8 [.int .u8 221, .int .u8 221, .int .u8 221, .int .u8 221, .int .u8 221, .int .u8 221, .int .u8 221, .int .u8 221] rfl rfl hnews (by simp [Value.oneCell']) (by omega) hszB ?_) | fail)
    intro v' w40 h1 h2
    have hk40 : ∀ q, q < w33.heap.size → (Value.slice aa E.length ac).ownBlock ≠ some q → w40.heap[q]? = w33.heap[q]? := fun q q1 q2 => (h2.block q (by have := hba.size; omega) (fun e => q2 e.symm)).trans ((hba.block q (by omega)).trans (hkp q q1 q2))
    have hs40 : w33.heap.size ≤ w40.heap.size := Nat.le_trans (Nat.le_trans hsz hba.size) h2.size
    have ha1 : ∀ q, (Value.slice aa E.length ac).ownBlock = some q → w21.heap.size ≤ q := fun q e => (hla0.out q e).1
    have hb40 : Below W.heap.size W w40 := (Below.after (hb.grown hgr (by have := hszA.out; omega) (fun q e => by have := ha1 q e; omega)) hba).grown h2 (by have := hba.size; omega) (fun q e => by have := ha1 q e; omega)
    have hX40 : VtM w40 (fun _ => True) _ X := hXl.keep ⟨hs40, fun q q1 q2 => ⟨hk40 q q1 (fun e => by have := ha1 q e; have q3 : q < w21.heap.size := q2; omega), trivial⟩⟩
    have hY40 := hYl.keep (T := fun _ => True) hs40 (fun q q1 q2 => ⟨hk40 q q1 (fun e => by have := ha1 q e; have q3 : q < w21.heap.size := q2; omega), trivial⟩)
    have hB40 := own_but hOb (fun q e => hk40 q (own_lt hOb q e).2 (fun e2 => by have := (hla0.out q e2).2; have := (own_lt hOb q e).1; omega))
    have hW40 := own_but hw (fun q e => hk40 q (own_lt hw q e).2 (fun e2 => by have := (hla1.out q e2).2; have := (own_lt hw q e).1; omega))
    have rV40 := (hk40 _ (lt_of_row rV) (fun e => by have := ha1 _ e; omega)).trans rV
    have rY40 := (hk40 _ (lt_of_row rY) (fun e => by have := ha1 _ e; omega)).trans rY
    have kB4 := conv_byT ((show Own w40 _ _ E from hB40).bysB (by omega)).1
    have kW4 := conv_byT ((show Own w40 _ _ E from hW40).bysB (by omega)).1
    have cL := l_leftV hY40 _ _ hX40 w40 (Below.refl _ _)
    unfold vrv vrw at cL
    dsimp only at cL
    clear h1 h2 hk40 hba r5 hOl hOl2 hkp hgr hnews
    go_wp2_with (first | (refine wpList_load_want rfl 27 _ rfl W.heap.size rfl 27 #[.int .u64 (xn : Int), .slice xda xdl xdc, .slice xpa xpl xpc] (0, 0) _ rV40 Tryz.underlying27 rfl infoV ?_) | (refine wpList_load_want rfl 27 _ rfl gy rfl 27 #[.int .u64 (yn : Int), .slice yda ydl ydc, .slice ypa ypl ypc] (0, 0) _ rY40 Tryz.underlying27 rfl infoV ?_) | fail)
    refine cL.mono ?_
    rintro e_ w41 ⟨rfl, hbL⟩
    replace hb40 := Below.after hb40 hbL
    clear cL
    go_wp2_with (fail)
    go_ret
    exact ⟨rfl, hb40⟩
 | some f =>
  refine (cK).mono ?_
  rintro e_ w4 ⟨⟨p, rfl, _, hp⟩, hb4⟩
  replace hE := hE.keep hb4 rfl
  replace hT := Utf8Tabs_below hT hb4
  replace hS := hS.keep hb4
  replace hX := hX.blw hb4
  replace rV := keep hb4 rV
  replace hb := Below.after hb hb4
  replace hC := hC.keep hb4
  replace hR := rdc_keep9 hR hb4
  replace rY := keep hb4 rY
  replace hY := hY.keep (hb4).size (fun q_ h1_ h2_ => ⟨(hb4).block q_ h1_, h2_⟩)
  replace hA := Below.after hA hb4
  replace hXl := hXl.blw hb4
  replace hYl := hYl.keep (hb4).size (fun q_ h1_ h2_ => ⟨(hb4).block q_ h1_, h2_⟩)
  clear hb4
  clear cK
  have cK := a_EncodeT plo8 ok.out.2.2.1 _ _ X _ hT hC hY.vtm ok.out.2.2.2.2
  rw [hF, hEE.out] at cK
  unfold vrv vrw at cK
  dsimp only at cK
  go_wp2_with (first | (refine wpList_load_want rfl 27 _ rfl W.heap.size rfl 27 #[.int .u64 (xn : Int), .slice xda xdl xdc, .slice xpa xpl xpc] (0, 0) _ rV Tryz.underlying27 rfl infoV ?_) | (refine wpList_load_want rfl 27 _ rfl gy rfl 27 #[.int .u64 (yn : Int), .slice yda ydl ydc, .slice ypa ypl ypc] (0, 0) _ rY Tryz.underlying27 rfl infoV ?_) | fail)
  refine (cK).mono ?_
  rintro e_ w5 ⟨⟨q, rfl, _, hq⟩, hb5⟩
  replace hE := hE.keep hb5 rfl
  replace hT := Utf8Tabs_below hT hb5
  replace hS := hS.keep hb5
  replace hX := hX.blw hb5
  replace rV := keep hb5 rV
  replace hb := Below.after hb hb5
  replace hC := hC.keep hb5
  replace hR := rdc_keep9 hR hb5
  replace rY := keep hb5 rY
  replace hY := hY.keep (hb5).size (fun q_ h1_ h2_ => ⟨(hb5).block q_ h1_, h2_⟩)
  replace hA := Below.after hA hb5
  replace hXl := hXl.blw hb5
  replace hYl := hYl.keep (hb5).size (fun q_ h1_ h2_ => ⟨(hb5).block q_ h1_, h2_⟩)
  replace hp := keep hb5 hp
  clear hb5
  clear cK
  have cR := r_EncodeE hz.out _ _ X _ hR hX.lim _ hF
  unfold vrv vrw at cR
  dsimp only at cR
  unfold flr frw at cR
  go_wp2_with (first | (refine wpList_load_want rfl 27 _ rfl W.heap.size rfl 27 #[.int .u64 (xn : Int), .slice xda xdl xdc, .slice xpa xpl xpc] (0, 0) _ rV Tryz.underlying27 rfl infoV ?_) | (refine wpList_load_want rfl 27 _ rfl gy rfl 27 #[.int .u64 (yn : Int), .slice yda ydl ydc, .slice ypa ypl ypc] (0, 0) _ rY Tryz.underlying27 rfl infoV ?_) | fail)
  refine (cR).mono ?_
  rintro e_ w6 ⟨rfl, hb6⟩
  replace hE := hE.keep hb6 rfl
  replace hT := Utf8Tabs_below hT hb6
  replace hS := hS.keep hb6
  replace hX := hX.blw hb6
  replace rV := keep hb6 rV
  replace hb := Below.after hb hb6
  replace hC := hC.keep hb6
  replace hR := rdc_keep9 hR hb6
  replace rY := keep hb6 rY
  replace hY := hY.keep (hb6).size (fun q_ h1_ h2_ => ⟨(hb6).block q_ h1_, h2_⟩)
  replace hA := Below.after hA hb6
  replace hXl := hXl.blw hb6
  replace hYl := hYl.keep (hb6).size (fun q_ h1_ h2_ => ⟨(hb6).block q_ h1_, h2_⟩)
  replace hp := keep hb6 hp
  replace hq := keep hb6 hq
  clear hb6
  clear cR
  have hba := (Below.refl w6.heap.size w6).alloc (Nat.le_refl _) (.cells #[.int .i64 f.line, .int .i64 f.at_, .int .i64 f.why] 41)
  have rQ := hp1_0 w6 (.cells #[.int .i64 f.line, .int .i64 f.at_, .int .i64 f.why] 41)
  replace hE := hE.keep hba rfl
  replace hT := Utf8Tabs_below hT hba
  replace hS := hS.keep hba
  replace hX := hX.blw hba
  replace rV := keep hba rV
  replace hb := Below.after hb hba
  replace hC := hC.keep hba
  replace hR := rdc_keep9 hR hba
  replace rY := keep hba rY
  replace hY := hY.keep (hba).size (fun q_ h1_ h2_ => ⟨(hba).block q_ h1_, h2_⟩)
  replace hA := Below.after hA hba
  replace hXl := hXl.blw hba
  replace hYl := hYl.keep (hba).size (fun q_ h1_ h2_ => ⟨(hba).block q_ h1_, h2_⟩)
  replace hp := keep hba hp
  replace hq := keep hba hq
  clear hba
  go_upto_region 10 with (fail)
  generalize w6.alloc (.cells #[.int .i64 f.line, .int .i64 f.at_, .int .i64 f.why] 41) = w30 at *
  generalize w6.heap.size = gq at *
  have hwhy := ck_why hF
  have cQ := l_faulty8_hit f hwhy _ _ hE hp
  unfold flr frw at cQ
  go_wp2_with (first | (refine wpList_load_want rfl 27 _ rfl W.heap.size rfl 27 #[.int .u64 (xn : Int), .slice xda xdl xdc, .slice xpa xpl xpc] (0, 0) _ rV Tryz.underlying27 rfl infoV ?_) | (refine wpList_load_want rfl 27 _ rfl gy rfl 27 #[.int .u64 (yn : Int), .slice yda ydl ydc, .slice ypa ypl ypc] (0, 0) _ rY Tryz.underlying27 rfl infoV ?_) | (refine wpList_load_want rfl 41 _ rfl gq rfl 41 #[.int .i64 f.line, .int .i64 f.at_, .int .i64 f.why] (0, 0) _ rQ Tryz.underlying41 rfl infoFt ?_) | fail)
  refine (cQ).mono ?_
  rintro e_ w31 ⟨rfl, hb31⟩
  replace hE := hE.keep hb31 rfl
  replace hT := Utf8Tabs_below hT hb31
  replace hS := hS.keep hb31
  replace hX := hX.blw hb31
  replace rV := keep hb31 rV
  replace hb := Below.after hb hb31
  replace hC := hC.keep hb31
  replace hR := rdc_keep9 hR hb31
  replace rY := keep hb31 rY
  replace hY := hY.keep (hb31).size (fun q_ h1_ h2_ => ⟨(hb31).block q_ h1_, h2_⟩)
  replace hA := Below.after hA hb31
  replace hXl := hXl.blw hb31
  replace hYl := hYl.keep (hb31).size (fun q_ h1_ h2_ => ⟨(hb31).block q_ h1_, h2_⟩)
  replace hp := keep hb31 hp
  replace hq := keep hb31 hq
  replace rQ := keep hb31 rQ
  clear hb31
  clear cQ
  have cQ := l_faulty8_hit f hwhy _ _ hE hq
  unfold flr frw at cQ
  go_wp2_with (first | (refine wpList_load_want rfl 27 _ rfl W.heap.size rfl 27 #[.int .u64 (xn : Int), .slice xda xdl xdc, .slice xpa xpl xpc] (0, 0) _ rV Tryz.underlying27 rfl infoV ?_) | (refine wpList_load_want rfl 27 _ rfl gy rfl 27 #[.int .u64 (yn : Int), .slice yda ydl ydc, .slice ypa ypl ypc] (0, 0) _ rY Tryz.underlying27 rfl infoV ?_) | (refine wpList_load_want rfl 41 _ rfl gq rfl 41 #[.int .i64 f.line, .int .i64 f.at_, .int .i64 f.why] (0, 0) _ rQ Tryz.underlying41 rfl infoFt ?_) | fail)
  refine (cQ).mono ?_
  rintro e_ w32 ⟨rfl, hb32⟩
  replace hE := hE.keep hb32 rfl
  replace hT := Utf8Tabs_below hT hb32
  replace hS := hS.keep hb32
  replace hX := hX.blw hb32
  replace rV := keep hb32 rV
  replace hb := Below.after hb hb32
  replace hC := hC.keep hb32
  replace hR := rdc_keep9 hR hb32
  replace rY := keep hb32 rY
  replace hY := hY.keep (hb32).size (fun q_ h1_ h2_ => ⟨(hb32).block q_ h1_, h2_⟩)
  replace hA := Below.after hA hb32
  replace hXl := hXl.blw hb32
  replace hYl := hYl.keep (hb32).size (fun q_ h1_ h2_ => ⟨(hb32).block q_ h1_, h2_⟩)
  replace hp := keep hb32 hp
  replace hq := keep hb32 hq
  replace rQ := keep hb32 rQ
  clear hb32
  clear cQ
  have kN := conv_byT (bys_nilq w32)
  have cL := l_leftV hY _ _ hX w32 (Below.refl _ _)
  unfold vrv vrw at cL
  dsimp only at cL
  go_wp2_with (first | (refine wpList_load_want rfl 27 _ rfl W.heap.size rfl 27 #[.int .u64 (xn : Int), .slice xda xdl xdc, .slice xpa xpl xpc] (0, 0) _ rV Tryz.underlying27 rfl infoV ?_) | (refine wpList_load_want rfl 27 _ rfl gy rfl 27 #[.int .u64 (yn : Int), .slice yda ydl ydc, .slice ypa ypl ypc] (0, 0) _ rY Tryz.underlying27 rfl infoV ?_) | (refine wpList_load_want rfl 41 _ rfl gq rfl 41 #[.int .i64 f.line, .int .i64 f.at_, .int .i64 f.why] (0, 0) _ rQ Tryz.underlying41 rfl infoFt ?_) | fail)
  refine (cL).mono ?_
  rintro e_ w33 ⟨rfl, hb33⟩
  replace hE := hE.keep hb33 rfl
  replace hT := Utf8Tabs_below hT hb33
  replace hS := hS.keep hb33
  replace hX := hX.blw hb33
  replace rV := keep hb33 rV
  replace hb := Below.after hb hb33
  replace hC := hC.keep hb33
  replace hR := rdc_keep9 hR hb33
  replace rY := keep hb33 rY
  replace hY := hY.keep (hb33).size (fun q_ h1_ h2_ => ⟨(hb33).block q_ h1_, h2_⟩)
  replace hA := Below.after hA hb33
  replace hXl := hXl.blw hb33
  replace hYl := hYl.keep (hb33).size (fun q_ h1_ h2_ => ⟨(hb33).block q_ h1_, h2_⟩)
  replace hp := keep hb33 hp
  replace hq := keep hb33 hq
  replace rQ := keep hb33 rQ
  clear hb33
  clear cL
  go_wp2_with (first | (refine wpList_load_want rfl 27 _ rfl W.heap.size rfl 27 #[.int .u64 (xn : Int), .slice xda xdl xdc, .slice xpa xpl xpc] (0, 0) _ rV Tryz.underlying27 rfl infoV ?_) | (refine wpList_load_want rfl 27 _ rfl gy rfl 27 #[.int .u64 (yn : Int), .slice yda ydl ydc, .slice ypa ypl ypc] (0, 0) _ rY Tryz.underlying27 rfl infoV ?_) | (refine wpList_load_want rfl 41 _ rfl gq rfl 41 #[.int .i64 f.line, .int .i64 f.at_, .int .i64 f.why] (0, 0) _ rQ Tryz.underlying41 rfl infoFt ?_) | fail)
  go_loopw [15] (fun i wr => i = .int .i64 0 ∧ Below w33.heap.size w33 wr) (fun _ _ => 0)
  case atStart => exact ⟨rfl, Below.refl _ _⟩
  case round =>
   obtain ⟨rfl, hbl⟩ := hrel
   clear kN
   replace hE := hE.keep hbl rfl
   replace hT := Utf8Tabs_below hT hbl
   replace hS := hS.keep hbl
   replace hX := hX.blw hbl
   replace rV := keep hbl rV
   replace hb := Below.after hb hbl
   replace hC := hC.keep hbl
   replace hR := rdc_keep9 hR hbl
   replace rY := keep hbl rY
   replace hY := hY.keep (hbl).size (fun q_ h1_ h2_ => ⟨(hbl).block q_ h1_, h2_⟩)
   replace hA := Below.after hA hbl
   replace hXl := hXl.blw hbl
   replace hYl := hYl.keep (hbl).size (fun q_ h1_ h2_ => ⟨(hbl).block q_ h1_, h2_⟩)
   replace hp := keep hbl hp
   replace hq := keep hbl hq
   replace rQ := keep hbl rQ
   have hba := (Below.refl wr.heap.size wr).alloc (Nat.le_refl _) (.cells #[.int .u8 221, .int .u8 221, .int .u8 221, .int .u8 221, .int .u8 221, .int .u8 221, .int .u8 221, .int .u8 221] 5)
   have r5 := hp1_0 wr (.cells #[.int .u8 221, .int .u8 221, .int .u8 221, .int .u8 221, .int .u8 221, .int .u8 221, .int .u8 221, .int .u8 221] 5)
   have hO0 : (wr.alloc (.cells #[.int .u8 221, .int .u8 221, .int .u8 221, .int .u8 221, .int .u8 221, .int .u8 221, .int .u8 221, .int .u8 221] 5)).ownsRow 0 5 1 (.slice none 0 0) 0 [] := ⟨rfl, .inl ⟨rfl, rfl⟩⟩
   have hnews : ∀ (j : Nat) (x : Value), [.int .u8 221, .int .u8 221, .int .u8 221, .int .u8 221, .int .u8 221, .int .u8 221, .int .u8 221, .int .u8 221][j]? = some x → (wr.alloc (.cells #[.int .u8 221, .int .u8 221, .int .u8 221, .int .u8 221, .int .u8 221, .int .u8 221, .int .u8 221, .int .u8 221] 5)).cell? ((⟨wr.heap.size, 0, none⟩ : Addr).add j) = some x := fun j u hu => by rw [add_off, cell_of_row _ _ _ _ _ _ r5]; simpa using hu
   go_wp2_with (first | (at_builtin; refine wpList_append_q rfl (.tmp 94) (.tmp 95) rfl 0 (.slice none 0 0) 0 _ rfl hO0 wr.heap.size 8 [.int .u8 221, .int .u8 221, .int .u8 221, .int .u8 221, .int .u8 221, .int .u8 221, .int .u8 221, .int .u8 221] rfl rfl hnews (by simp [Value.oneCell']) (by omega) (Nat.zero_le _) ?_) | fail)
   intro v' w40 h1 h2
   have hb4 : Below wr.heap.size wr w40 := hba.grown h2 hba.size (fun q e => by cases e)
   clear h1 h2 hba r5 hO0 hnews hbl
   replace hE := hE.keep hb4 rfl
   replace hT := Utf8Tabs_below hT hb4
   replace hS := hS.keep hb4
   replace hX := hX.blw hb4
   replace rV := keep hb4 rV
   replace hb := Below.after hb hb4
   replace hC := hC.keep hb4
   replace hR := rdc_keep9 hR hb4
   replace rY := keep hb4 rY
   replace hY := hY.keep (hb4).size (fun q_ h1_ h2_ => ⟨(hb4).block q_ h1_, h2_⟩)
   replace hA := Below.after hA hb4
   replace hXl := hXl.blw hb4
   replace hYl := hYl.keep (hb4).size (fun q_ h1_ h2_ => ⟨(hb4).block q_ h1_, h2_⟩)
   replace hp := keep hb4 hp
   replace hq := keep hb4 hq
   replace rQ := keep hb4 rQ
   have kN := conv_byT (bys_nilq w40)
   have cL := l_leftV hY _ _ hX w40 (Below.refl _ _)
   unfold vrv vrw at cL
   dsimp only at cL
   go_wp2_with (first | (refine wpList_load_want rfl 27 _ rfl W.heap.size rfl 27 #[.int .u64 (xn : Int), .slice xda xdl xdc, .slice xpa xpl xpc] (0, 0) _ rV Tryz.underlying27 rfl infoV ?_) | (refine wpList_load_want rfl 27 _ rfl gy rfl 27 #[.int .u64 (yn : Int), .slice yda ydl ydc, .slice ypa ypl ypc] (0, 0) _ rY Tryz.underlying27 rfl infoV ?_) | fail)
   refine (cL).mono ?_
   rintro e_ w51 ⟨rfl, hb51⟩
   replace hE := hE.keep hb51 rfl
   replace hT := Utf8Tabs_below hT hb51
   replace hS := hS.keep hb51
   replace hX := hX.blw hb51
   replace rV := keep hb51 rV
   replace hb := Below.after hb hb51
   replace hC := hC.keep hb51
   replace hR := rdc_keep9 hR hb51
   replace rY := keep hb51 rY
   replace hY := hY.keep (hb51).size (fun q_ h1_ h2_ => ⟨(hb51).block q_ h1_, h2_⟩)
   replace hA := Below.after hA hb51
   replace hXl := hXl.blw hb51
   replace hYl := hYl.keep (hb51).size (fun q_ h1_ h2_ => ⟨(hb51).block q_ h1_, h2_⟩)
   replace hp := keep hb51 hp
   replace hq := keep hb51 hq
   replace rQ := keep hb51 rQ
   clear hb51
   clear cL
   go_wp2_with (first | (refine wpList_load_want rfl 27 _ rfl W.heap.size rfl 27 #[.int .u64 (xn : Int), .slice xda xdl xdc, .slice xpa xpl xpc] (0, 0) _ rV Tryz.underlying27 rfl infoV ?_) | (refine wpList_load_want rfl 27 _ rfl gy rfl 27 #[.int .u64 (yn : Int), .slice yda ydl ydc, .slice ypa ypl ypc] (0, 0) _ rY Tryz.underlying27 rfl infoV ?_) | fail)
   go_ret
   exact ⟨rfl, hb⟩
end Go.Proofs.YtmmlkfkpblokiaaGreatDoor
namespace Go.Proofs.YtmmlkfkpblokiaaGreatDoor
set_option maxRecDepth 100000
open Go Go.ChangeShapes Go.WideShapes Go.ChangeAt Go.RowKit Go.Deep
/-! Schemas out of the data. -/
theorem bSl56 : Tryz.prog.bytesOf 88 = 56 := by kernel_rfl
theorem cSl5 : Tryz.prog.cellsOf 88 = 5 := by kernel_rfl
theorem cI1s : Tryz.prog.cellsOf 3 = 1 := by kernel_rfl
theorem cU1s : Tryz.prog.cellsOf 23 = 1 := by kernel_rfl
theorem cSs1 : Tryz.prog.cellsOf 22 = 1 := by kernel_rfl
theorem block_lts {w : World} {b o : Nat} {v : Value} (h : w.cell? ⟨b, o, none⟩ = some v) : b < w.heap.size := by
 rcases Nat.lt_or_ge b w.heap.size with x | x
 ·exact x
 ·have : w.heap[b]? = none := Array.getElem?_eq_none x
  simp [World.cell?, this] at h
theorem weightsAll_inS {H : Type} {P : Program} {e : TypeId} : ∀ {l : List (DataW H)} {d : DataW H}, d ∈ l → ∀ n ∈ d.weights P e, n ∈ DataW.weightsAll P e l
 | x :: r, d, h, n, hn => by
  rw [DataW.weightsAll, List.mem_append]
  rcases List.mem_cons.1 h with rfl | h
  ·exact .inl hn
  ·exact .inr (weightsAll_inS h n hn)
theorem range_gs (PS : Nat → Slt) (n i : Nat) (h : i < n) : gs ((List.range n).map PS) i = PS i := by
 rw [gs, List.getD_eq_getElem?_getD, List.getElem?_map, List.getElem?_range h]; rfl
theorem range_gvs (PS : Nat → Value) (n i : Nat) (h : i < n) : gvs ((List.range n).map PS) i = PS i := by
 rw [gvs, List.getD_eq_getElem?_getD, List.getElem?_map, List.getElem?_range h]; rfl
theorem slot_of_trod {H : Type} {enc : TypeId × Value → H} {W : World} {m : Nat} {cs : List Value} {x : DataW H × List MemPlace} (h : DataW.trod enc Tryz.prog W 0 (fun _ => true) true m 88 cs = some x) :
 ∃ (no k : Int) (l mo : Nat) (u : Value) (n : Nat) (y : DataW H × List MemPlace), (∀ sub, cs = srow (.mk no k l mo sub) u ∧ Sok (.mk no k l mo sub)) ∧ DataW.trod enc Tryz.prog W 0 (fun _ => true) true n 22 [u] = some y ∧ SizeOf.sizeOf y.1 < SizeOf.sizeOf x.1 ∧ ∀ z ∈ y.1.weights Tryz.prog 22, z ∈ x.1.weights Tryz.prog 88 := by
 obtain ⟨xs, m, rfl, rfl, hlen, hxl, hf⟩ := DataW.trod_struct Tryz.underlying88 h
 rw [cSl5] at hlen
 have g0 := hf 0 _ rfl; have g1 := hf 1 _ rfl; have g2 := hf 2 _ rfl; have g3 := hf 3 _ rfl; have g4 := hf 4 _ rfl
 clear hf h
 match cs, hlen, xs, hxl, g0, g1, g2, g3, g4 with
 | [c0, c1, c2, c3, c4], _, [x0, x1, x2, x3, x4], _, g0, g1, g2, g3, g4 =>
  obtain ⟨K, e0, _, wK⟩ := DataW.trod_int Tryz.underlying3 g0
  obtain ⟨A, e1, _, wA⟩ := DataW.trod_int Tryz.underlying3 g1
  obtain ⟨C, e2, _, wC⟩ := DataW.trod_int Tryz.underlying23 g2
  obtain ⟨E, e3, _, wE⟩ := DataW.trod_int Tryz.underlying23 g3
  have q0 : c0 = .int .i64 K := by
   have q : ([c0, c1, c2, c3, c4].drop 0).take (Tryz.prog.cellsOf 3) = [.int .i64 K] := e0
   rw [cI1s] at q
   simpa using q
  have q1 : c1 = .int .i64 A := by
   have q : ([c0, c1, c2, c3, c4].drop 1).take (Tryz.prog.cellsOf 3) = [.int .i64 A] := e1
   rw [cI1s] at q
   simpa using q
  have q2 : c2 = .int .u64 C := by
   have q : ([c0, c1, c2, c3, c4].drop 2).take (Tryz.prog.cellsOf 23) = [.int .u64 C] := e2
   rw [cU1s] at q
   simpa using q
  have q3 : c3 = .int .u64 E := by
   have q : ([c0, c1, c2, c3, c4].drop 3).take (Tryz.prog.cellsOf 23) = [.int .u64 E] := e3
   rw [cU1s] at q
   simpa using q
  have q4 : DataW.trod enc Tryz.prog W 0 (fun _ => true) true m 22 [c4] = some x4 := by
   have q : DataW.trod enc Tryz.prog W 0 (fun _ => true) true m 22 (([c0, c1, c2, c3, c4].drop 4).take (Tryz.prog.cellsOf 22)) = some x4 := g4
   rw [cSs1] at q
   simpa using q
  have bK := bounds_i64 wK
  have bA := bounds_i64 wA
  have bC := bounds_u64 wC
  have bE := bounds_u64 wE
  obtain ⟨N, rfl⟩ := Int.eq_ofNat_of_zero_le bC.1
  obtain ⟨M, rfl⟩ := Int.eq_ofNat_of_zero_le bE.1
  refine ⟨K, A, N, M, c4, m, x4, fun sub => ⟨by rw [q0, q1, q2, q3]; rfl, bK, bA, by show N < _; omega, by show M < _; omega⟩, q4, ?_, fun z hz => ?_⟩
  ·simp only [List.map_cons, List.map_nil, DataW.agg.sizeOf_spec, List.cons.sizeOf_spec]
   omega
  ·simp only [DataW.weights, Tryz.underlying88]
   exact DataW.weights_mem_each (j := 4) rfl rfl z hz
theorem slo_of_size {H : Type} {enc : TypeId × Value → H} {W : World} : ∀ (N : Nat) {m : Nat} {v : Value} {x : DataW H × List MemPlace}, SizeOf.sizeOf x.1 ≤ N → DataW.trod enc Tryz.prog W 0 (fun _ => true) true m 22 [v] = some x → (∀ n ∈ x.1.weights Tryz.prog 22, n ≤ reachBytes) → ∃ ts : List Slt, Slo W v ts
 | 0, m, v, x, hN, _, _ => by
  exfalso
  cases h : x.1 <;> rw [h] at hN <;> simp at hN
 | N + 1, m, v, x, hN, hf, hs => by
  rcases open_slice Tryz.underlying22 hf with ⟨hcs, hx⟩ | ⟨a, len, cap, m, n, D, Pl, hcs, _, hl, hm, hmm, hx, hel⟩
  ·injection hcs with hv _
   subst hv
   exact ⟨[], .mk none 0 [] [] (by simp) (by simp) (fun _ => rfl) (fun i hi => by simp at hi) (fun i hi => by simp at hi)⟩
  ·injection hcs with hv _
   subst hv
   subst hx
   simp only [if_true] at hmm
   subst hmm
   rw [cSl5] at hel
   have hb := hs ((((List.range len).map D).length + ((List.range (m - len)).map fun j => D (len + j)).length) * 56) (by simp [DataW.weights, Tryz.underlying22, bSl56])
   simp only [List.length_map, List.length_range, reachBytes] at hb
   obtain ⟨PS, hPS⟩ := @choose_lt (Slt × Value) ⟨(s0, undef)⟩ len (fun i f => ∃ cs', W.cells? 0 (a.add (i * 5)) 5 = some cs' ∧ cs' = srow f.1 f.2 ∧ Sok f.1 ∧ Slo W f.2 f.1.sub) (fun i hi => by
    obtain ⟨cs', h1, h2⟩ := hel i (by omega)
    obtain ⟨no, k, l, mo, u, n', y, h3, h4, h5, h6⟩ := slot_of_trod h2
    have hmem : D i ∈ (List.range len).map D := List.mem_map.2 ⟨i, List.mem_range.2 hi, rfl⟩
    have hsz : SizeOf.sizeOf (D i) < SizeOf.sizeOf ((List.range len).map D) := List.sizeOf_lt_of_mem hmem
    obtain ⟨sub, hsub⟩ := slo_of_size N (x := y) (by
     simp only [DataW.slice.sizeOf_spec] at hN
     simp only at h5
     omega) h4 (fun z hz => hs z (by
     simp only [DataW.weights, Tryz.underlying22]
     exact List.mem_cons_of_mem _ (List.mem_append_left _ (weightsAll_inS hmem z (h6 z hz)))))
    exact ⟨(.mk no k l mo sub, u), cs', h1, (h3 sub).1, (h3 sub).2, hsub⟩)
   have e : (Value.slice (some a) len m) = .slice (some a) ((List.range len).map fun i => (PS i).1).length m := by simp
   rw [e]
   refine ⟨_, .mk (some a) m _ ((List.range len).map fun i => (PS i).2) (by simp; omega) (by simp; exact hl) (fun e => by cases e) (fun i hi => ?_) (fun i hi => ?_)⟩
   ·have hi' : i < len := by simpa using hi
    obtain ⟨cs', h1, h2, h3, _⟩ := hPS i hi'
    obtain ⟨_, hln, hc⟩ := World.cells?_some h1
    obtain ⟨bb, off, spot⟩ := a
    have hspot : spot = none := by
     obtain ⟨cs0, h0, _⟩ := hel 0 (by omega)
     obtain ⟨_, hl0, hc0⟩ := World.cells?_some h0
     have := hc0 0 (by omega)
     rw [List.getElem?_eq_getElem (by omega)] at this
     simpa [Addr.add] using World.cell?_spot this
    subst hspot
    rw [range_gs _ len i hi', range_gvs _ len i hi']
    have hr : W.rangeAt bb (off + i * 5) cs' := by
     intro j v hv
     have hj : j < 5 := by have := (List.getElem?_eq_some_iff.1 hv).1; omega
     have := hc j hj
     rw [addr_add, addr_add, hv] at this
     exact this
    rw [h2] at hr
    exact ⟨bb, off, rfl, block_lts (hr 0 _ rfl), hr, h3⟩
   ·have hi' : i < len := by simpa using hi
    obtain ⟨_, _, _, _, h4⟩ := hPS i hi'
    rw [range_gs _ len i hi', range_gvs _ len i hi']
    exact h4
theorem slo_of_trod {H : Type} {enc : TypeId × Value → H} {W : World} {m : Nat} {v : Value} {x : DataW H × List MemPlace} (hf : DataW.trod enc Tryz.prog W 0 (fun _ => true) true m 22 [v] = some x) (hs : ∀ n ∈ x.1.weights Tryz.prog 22, n ≤ reachBytes) : ∃ ts : List Slt, Slo W v ts := slo_of_size _ (Nat.le_refl _) hf hs
end Go.Proofs.YtmmlkfkpblokiaaGreatDoor
namespace Go.Proofs.YtmmlkfkpblokiaaGreatDoor
set_option maxRecDepth 100000
open Go Go.ChangeShapes Go.WideShapes Go.ChangeAt Go.RowKit Go.Deep
/-! Values out of the data. -/
theorem bVl56 : Tryz.prog.bytesOf 27 = 56 := by kernel_rfl
theorem cVl3 : Tryz.prog.cellsOf 27 = 3 := by kernel_rfl
theorem cUv1 : Tryz.prog.cellsOf 23 = 1 := by kernel_rfl
theorem cSv1 : Tryz.prog.cellsOf 25 = 1 := by kernel_rfl
theorem cBv1 : Tryz.prog.cellsOf 24 = 1 := by kernel_rfl
theorem block_ltv {w : World} {b o : Nat} {v : Value} (h : w.cell? ⟨b, o, none⟩ = some v) : b < w.heap.size := by
 rcases Nat.lt_or_ge b w.heap.size with x | x
 ·exact x
 ·have : w.heap[b]? = none := Array.getElem?_eq_none x
  simp [World.cell?, this] at h
theorem weightsAll_inV {H : Type} {P : Program} {e : TypeId} : ∀ {l : List (DataW H)} {d : DataW H}, d ∈ l → ∀ n ∈ d.weights P e, n ∈ DataW.weightsAll P e l
 | x :: r, d, h, n, hn => by
  rw [DataW.weightsAll, List.mem_append]
  rcases List.mem_cons.1 h with rfl | h
  ·exact .inl hn
  ·exact .inr (weightsAll_inV h n hn)
theorem range_gx (PS : Nat → VR) (n i : Nat) (h : i < n) : gx ((List.range n).map PS) i = PS i := by
 rw [gx, List.getD_eq_getElem?_getD, List.getElem?_map, List.getElem?_range h]; rfl
theorem range_gvt (PS : Nat → VT) (n i : Nat) (h : i < n) : gvt ((List.range n).map PS) i = PS i := by
 rw [gvt, List.getD_eq_getElem?_getD, List.getElem?_map, List.getElem?_range h]; rfl
theorem val_of_trod {H : Type} {enc : TypeId × Value → H} {W : World} {m : Nat} {cs : List Value} {x : DataW H × List MemPlace} (h : DataW.trod enc Tryz.prog W 0 (fun _ => true) true m 27 cs = some x) (hs : ∀ n ∈ x.1.weights Tryz.prog 27, n ≤ reachBytes) :
 ∃ (N : Nat) (bs : List B) (v u : Value) (n : Nat) (y : DataW H × List MemPlace), cs = [.int .u64 (N : Int), v, u] ∧ N < 18446744073709551616 ∧ BysC W v bs ∧ DataW.trod enc Tryz.prog W 0 (fun _ => true) true n 25 [u] = some y ∧ SizeOf.sizeOf y.1 < SizeOf.sizeOf x.1 ∧ ∀ z ∈ y.1.weights Tryz.prog 25, z ∈ x.1.weights Tryz.prog 27 := by
 obtain ⟨xs, m, rfl, rfl, hlen, hxl, hf⟩ := DataW.trod_struct Tryz.underlying27 h
 rw [cVl3] at hlen
 have g0 := hf 0 _ rfl; have g1 := hf 1 _ rfl; have g2 := hf 2 _ rfl
 clear hf h
 match cs, hlen, xs, hxl, g0, g1, g2 with
 | [c0, c1, c2], _, [x0, x1, x2], _, g0, g1, g2 =>
  obtain ⟨C, e0, _, wC⟩ := DataW.trod_int Tryz.underlying23 g0
  have q0 : c0 = .int .u64 C := by
   have q : ([c0, c1, c2].drop 0).take (Tryz.prog.cellsOf 23) = [.int .u64 C] := e0
   rw [cUv1] at q
   simpa using q
  have q1 : DataW.trod enc Tryz.prog W 0 (fun _ => true) true m 24 [c1] = some x1 := by
   have q : DataW.trod enc Tryz.prog W 0 (fun _ => true) true m 24 (([c0, c1, c2].drop 1).take (Tryz.prog.cellsOf 24)) = some x1 := g1
   rw [cBv1] at q
   simpa using q
  have q2 : DataW.trod enc Tryz.prog W 0 (fun _ => true) true m 25 [c2] = some x2 := by
   have q : DataW.trod enc Tryz.prog W 0 (fun _ => true) true m 25 (([c0, c1, c2].drop 2).take (Tryz.prog.cellsOf 25)) = some x2 := g2
   rw [cSv1] at q
   simpa using q
  have bC := bounds_u64 wC
  obtain ⟨N, rfl⟩ := Int.eq_ofNat_of_zero_le bC.1
  obtain ⟨v, bs, ev, hB⟩ := bysC_of_trod q1 (fun z hz => hs z (by
   simp only [DataW.weights, Tryz.underlying27]
   exact DataW.weights_mem_each (j := 1) rfl rfl z hz))
  injection ev with ev _
  subst ev
  refine ⟨N, bs, c1, c2, m, x2, by rw [q0], by omega, hB, q2, ?_, fun z hz => ?_⟩
  ·simp only [List.map_cons, List.map_nil, DataW.agg.sizeOf_spec, List.cons.sizeOf_spec]
   omega
  ·simp only [DataW.weights, Tryz.underlying27]
   exact DataW.weights_mem_each (j := 2) rfl rfl z hz
theorem bysC_form {W : World} {v : Value} {bs : List B} (h : BysC W v bs) : ∃ da dc, v = .slice da bs.length dc ∧ bs.length ≤ dc := by
 obtain ⟨⟨⟨ao, cap, e, _⟩, _⟩, _, hc⟩ := h
 rw [bl_len] at e
 exact ⟨ao, cap, e, hc _ _ _ e⟩
theorem inS_data {W : World} {da : Option Addr} {dl dc : Nat} {bs : List B} (h : BysC W (.slice da dl dc) bs) : InS W (fun _ => True) (lv dl da) := by
 intro a e
 have e1 := lv_some e
 subst e1
 obtain ⟨⟨ao, cap, e2, hl, hc, hz⟩, _⟩ := h.1
 injection e2 with e3 e4 e5
 subst e3
 have hpos : 0 < dl := by
  rcases Nat.eq_zero_or_pos dl with h0 | h0
  ·rw [h0] at e
   cases e
  ·exact h0
 obtain ⟨b, off, ea, hb, _⟩ := hc 0 (by omega)
 injection ea with ea
 subst ea
 exact ⟨trivial, hb⟩
theorem vtm_of_size {H : Type} {enc : TypeId × Value → H} {W : World} : ∀ (N : Nat) {m : Nat} {cs : List Value} {x : DataW H × List MemPlace}, SizeOf.sizeOf x.1 ≤ N → DataW.trod enc Tryz.prog W 0 (fun _ => true) true m 27 cs = some x → (∀ n ∈ x.1.weights Tryz.prog 27, n ≤ reachBytes) → ∃ (r : VR) (X : VT), cs = (vrv r).toList ∧ VtM W (fun _ => True) r X
 | 0, m, cs, x, hN, _, _ => by
  exfalso
  cases h : x.1 <;> rw [h] at hN <;> simp at hN
 | N + 1, m, cs, x, hN, hf, hs => by
  obtain ⟨Nn, bs, dv, u, n', y, hcs, hNn, hB, hy, hsz, hw⟩ := val_of_trod hf hs
  obtain ⟨da, dc, rfl, hdc⟩ := bysC_form hB
  have hI := inS_data hB
  rcases open_slice Tryz.underlying25 hy with ⟨hcu, hx⟩ | ⟨a, len, cap, m, n, D, Pl, hcu, _, hl, hm, hmm, hx, hel⟩
  ·injection hcu with hv _
   subst hv
   exact ⟨⟨Nn, da, bs.length, dc, none, 0, 0⟩, .mk Nn bs [], hcs, .mk ⟨Nn, da, bs.length, dc, none, 0, 0⟩ bs [] [] hNn rfl hB.2.1 hB.1 hdc hI rfl rfl (by simp) (by simp) (fun a e => by cases lv_some e) (fun i hi => by simp at hi) (fun i hi => by simp at hi)⟩
  ·injection hcu with hv _
   subst hv
   simp only [if_true] at hmm
   subst hmm
   rw [cVl3] at hel
   have hy1 : y.1 = .slice ((List.range len).map D) ((List.range (m - len)).map fun j => D (len + j)) := by rw [hx]
   have hb := hs ((((List.range len).map D).length + ((List.range (m - len)).map fun j => D (len + j)).length) * 56) (hw _ (by rw [hy1]; simp [DataW.weights, Tryz.underlying25, bVl56]))
   simp only [List.length_map, List.length_range, reachBytes] at hb
   obtain ⟨PS, hPS⟩ := @choose_lt (VR × VT) ⟨(vr0, vt0)⟩ len (fun i f => ∃ cs', W.cells? 0 (a.add (i * 3)) 3 = some cs' ∧ cs' = (vrv f.1).toList ∧ VtM W (fun _ => True) f.1 f.2) (fun i hi => by
    obtain ⟨cs', h1, h2⟩ := hel i (by omega)
    have hmem : D i ∈ (List.range len).map D := List.mem_map.2 ⟨i, List.mem_range.2 hi, rfl⟩
    have hsz2 : SizeOf.sizeOf (D i) < SizeOf.sizeOf ((List.range len).map D) := List.sizeOf_lt_of_mem hmem
    obtain ⟨r, X, e1, e2⟩ := vtm_of_size N (x := (D i, _)) (by
     rw [hy1] at hsz
     simp only [DataW.slice.sizeOf_spec] at hsz
     simp only
     omega) h2 (fun z hz => hs z (hw z (by
     rw [hy1]
     simp only [DataW.weights, Tryz.underlying25]
     exact List.mem_cons_of_mem _ (List.mem_append_left _ (weightsAll_inV hmem z hz)))))
    exact ⟨(r, X), cs', h1, e1, e2⟩)
   have spot : 0 < len → ∃ bb off, a = ⟨bb, off, none⟩ := fun h0 => by
    obtain ⟨bb, off, sp⟩ := a
    obtain ⟨cs0, h0', _⟩ := hel 0 (by omega)
    obtain ⟨_, hl0, hc0⟩ := World.cells?_some h0'
    have := hc0 0 (by omega)
    rw [List.getElem?_eq_getElem (by omega)] at this
    exact ⟨bb, off, by rw [show sp = none by simpa [Addr.add] using World.cell?_spot this]⟩
   have rng : ∀ i, i < len → ∃ b off, some a = some (⟨b, off, none⟩ : Addr) ∧ b < W.heap.size ∧ W.rangeAt b (off + i * 3) (vrv (PS i).1).toList := fun i hi => by
    obtain ⟨cs', h1, h2, _⟩ := hPS i hi
    obtain ⟨_, hln, hc⟩ := World.cells?_some h1
    obtain ⟨bb, off, rfl⟩ := spot (by omega)
    have hr : W.rangeAt bb (off + i * 3) cs' := by
     intro j v hv
     have hj : j < 3 := by have := (List.getElem?_eq_some_iff.1 hv).1; omega
     have := hc j hj
     rw [addr_add, addr_add, hv] at this
     exact this
    rw [h2] at hr
    exact ⟨bb, off, rfl, block_ltv (hr 0 _ rfl), hr⟩
   refine ⟨⟨Nn, da, bs.length, dc, some a, len, m⟩, .mk Nn bs ((List.range len).map fun i => (PS i).2), hcs, .mk ⟨Nn, da, bs.length, dc, some a, len, m⟩ bs ((List.range len).map fun i => (PS i).1) _ hNn rfl hB.2.1 hB.1 hdc hI (by simp) (by simp) (by simp; exact hl) (by simp; omega) (fun b e => ?_) (fun i hi => ?_) (fun i hi => ?_)⟩
   ·have e1 := lv_some e
    injection e1 with e1
    subst e1
    have hpos : 0 < len := by
     rcases Nat.eq_zero_or_pos len with h0 | h0
     ·rw [h0] at e
      cases e
     ·exact h0
    obtain ⟨bb, off, e2, hb2, _⟩ := rng 0 hpos
    injection e2 with e2
    subst e2
    exact ⟨trivial, hb2⟩
   ·have hi' : i < len := by simpa using hi
    obtain ⟨bb, off, e2, hb2, hr⟩ := rng i hi'
    rw [range_gx _ len i hi']
    exact ⟨bb, off, e2, hr⟩
   ·have hi' : i < len := by simpa using hi
    obtain ⟨_, _, _, h4⟩ := hPS i hi'
    rw [range_gx _ len i hi', range_gvt _ len i hi']
    exact h4
theorem val_of_data {H : Type} {enc : TypeId × Value → H} {W : World} {m : Nat} {cs : List Value} {x : DataW H × List MemPlace} (hf : DataW.trod enc Tryz.prog W 0 (fun _ => true) true m 27 cs = some x) (hs : ∀ n ∈ x.1.weights Tryz.prog 27, n ≤ reachBytes) : ∃ (r : VR) (X : VT), cs = (vrv r).toList ∧ VtM W (fun _ => True) r X := vtm_of_size _ (Nat.le_refl _) hf hs
end Go.Proofs.YtmmlkfkpblokiaaGreatDoor
namespace Go.Proofs.YtmmlkfkpblokiaaGreatDoor
set_option maxRecDepth 100000
open Go Go.RowKit
def rU : Go.Shelf.Ren where
 f := fun n => n
 t := fun n => if n = 5 then 5 else if n = 119 then 221 else if n = 138 then 223 else 224
 g := fun n => if n = 3 then 2 else 3
theorem tabs_of_reads {W : World} (h : laidMet Tryz.prog [("unicode/utf8.acceptRanges", Rows.laid_unicode_utf8_acceptRanges), ("unicode/utf8.first", Rows.laid_unicode_utf8_first)] W) : Lib.Utf8Tabs 2 3 W :=
 utf8Tabs_of_readsT (P := Tryz.prog) (ρ := rU) ⟨by kernel_rfl, by kernel_rfl, by kernel_rfl, by kernel_rfl⟩ ⟨by kernel_rfl, by kernel_rfl, by kernel_rfl, by kernel_rfl, by kernel_rfl, by kernel_rfl, by kernel_rfl⟩ (Lib.laidMet.reads h (.tail _ (.head _))) (Lib.laidMet.reads h (.head _))
end Go.Proofs.YtmmlkfkpblokiaaGreatDoor

