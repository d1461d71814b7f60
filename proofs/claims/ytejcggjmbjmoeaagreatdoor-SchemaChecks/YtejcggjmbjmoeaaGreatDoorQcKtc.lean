import Derived.Test.YtejcggjmbjmoeaaGreatDoorQcIrf
import Derived.OwnWalk
import Derived.Deep.Cut
import Derived.Deep.RegionHeld3
import Derived.Laws.BitsAllLaws
import Derived.Laws.Externs
import Derived.Test.YtejcggjmbjmoeaaGreatDoorQcUg
namespace Go.Proofs.YtejcggjmbjmoeaaGreatDoor
set_option maxRecDepth 100000
open Go Go.RowKit Go.Sort
attribute [local go_sem] setCell_drewN alloc_drewN
structure Plo (utf : List B → Bool) (flE : Nat → Nat → Int) (G : World → Prop) : Prop where
 keep : ∀ w w', G w → Below w.heap.size w w' → G w'
 txt : ∀ w da dl dc bs, G w → dl ≤ dc → BysB w (.slice da dl dc) bs → Calls Tryz.prog 122 #[.slice da dl dc] w fun e w' => e = .returned (.bool (utf bs)) ∧ Below w.heap.size w w'
 flt : ∀ w (n m : Nat), n < 18446744073709551616 → Calls Tryz.prog 93 #[.agg #[.float .f64 (floatOfInt .f64 (m : Int))], .int .u64 (n : Int)] w fun e w' => e = .returned (.int .i64 (flE n m)) ∧ Below w.heap.size w w'
def txE (utf : List B → Bool) (l m : Int) (bs : List B) : Int := if wth (bs.length : Int) l m ≠ 0 then wth (bs.length : Int) l m else if utf bs then 0 else 84
set_option maxRecDepth 100000 in
set_option maxHeartbeats 4000000 in
theorem a_octetsT {utf : List B → Bool} {flE : Nat → Nat → Int} {G : World → Prop} (hp : Plo utf flE G) (da : Option Addr) (dl dc : Nat) (hcp : dl ≤ dc) (bs : List B) (l m : Int) (hdl : dl < 9223372036854775808) (w : World) (hG : G w) (hB : BysB w (.slice da dl dc) bs) (hbl : dl = bs.length) : Calls Tryz.prog 95 #[.agg #[.int .u64 l, .int .u64 m, .bool true], .slice da dl dc] w fun e w' => e = .returned (.int .i64 (txE utf l m bs)) ∧ Below w.heap.size w w' := by
 have cW := a_within (dl : Int) l m
 have hb : ∀ o, Below w.heap.size w (w.alloc o) := fun o => (Below.refl _ _).alloc (Nat.le_refl _) _
 obtain ⟨R, hR⟩ : ∃ R, txE utf l m bs = R := ⟨_, rfl⟩
 rw [hR]
 unfold txE at hR
 rw [← hbl] at hR
 clear hbl
 generalize hE : wth (dl : Int) l m = E at *
 go_enter Tryz.func95, Tryz.ntmps95
 go_wp2_with (fail)
 refine (cW.at _).mono ?_
 rintro e_ w1 ⟨rfl, hb1⟩
 have r0 := keep hb1 (hp1_0 w (.cells #[.int .u64 l, .int .u64 m, .bool true] 186))
 have c2 : w1.cell? ⟨w.heap.size, 2, none⟩ = some (.bool true) := by rw [cell_of_row _ _ _ _ _ _ r0]; rfl
 replace hb1 := Below.after (hb _) hb1
 replace hE := hide hE
 rcases hz : (E == 0)
 ·have hz2 : ¬ E = 0 := by simpa using hz
  rw [if_pos hz2] at hR
  replace hR := hide hR
  clear r0 cW
  go_wp2
  go_ret
  exact ⟨by rw [← hR.out]; rfl, hb1⟩
 ·have hz2 : E = 0 := by simpa using hz
  subst hz2
  rw [if_neg (by simp)] at hR
  have cT := hp.txt w1 da dl dc bs (hp.keep _ _ hG hb1) hcp (hB.keep hb1)
  generalize utf bs = B at *
  replace hR := hide hR
  clear r0 cW hz
  go_wp2_with (fail)
  refine cT.mono ?_
  rintro e_ w2 ⟨rfl, hb2⟩
  replace hb1 := Below.after hb1 hb2
  cases B
  ·go_wp2
   go_ret
   exact ⟨by rw [← hR.out]; rfl, hb1⟩
  ·go_wp2
   go_ret
   exact ⟨by rw [← hR.out]; rfl, hb1⟩
set_option maxRecDepth 100000 in
set_option maxHeartbeats 4000000 in
theorem a_fitTxt {utf : List B → Bool} {flE : Nat → Nat → Int} {G : World → Prop} (hp : Plo utf flE G) (n : Nat) (da : Option Addr) (dl dc : Nat) (hcp : dl ≤ dc) (pa : Option Addr) (pl pc : Nat) (bs : List B) (l m : Int) (hdl : dl < 9223372036854775808) (g : Nat) (w : World) (hG : G w) (hB : BysB w (.slice da dl dc) bs) (hbl : dl = bs.length) (hg : Bx w g #[.int .u64 l, .int .u64 m, .bool true]) : Calls Tryz.prog 94 #[.agg (vrw n (.slice da dl dc) (.slice pa pl pc)), .pointer (some ⟨g, 0, none⟩)] w fun e w' => e = .returned (.int .i64 (txE utf l m bs)) ∧ Below w.heap.size w w' := by
 obtain ⟨T, hg⟩ := hg
 have hlt := lt_of_row hg
 have hb : ∀ o, Below w.heap.size w (w.alloc o) := fun o => (Below.refl _ _).alloc (Nat.le_refl _) _
 have cO := fun V (hV : Below w.heap.size w V) => a_octetsT hp da dl dc hcp bs l m hdl V (hp.keep _ _ hG hV) (hB.keep hV) hbl
 have hg2 := fun o => keep (hb o) hg
 replace cO := hide cO
 clear hbl hB hG
 unfold vrw
 go_enter Tryz.func94, Tryz.ntmps94
 go_wp2_with (first | (refine wpList_load_want rfl 186 _ rfl g rfl T #[.int .u64 l, .int .u64 m, .bool true] (0, 0) _ (hg2 _) Tryz.underlying186 rfl infoOct ?_) | fail)
 refine (cO.out _ (hb _)).mono ?_
 rintro e_ w1 ⟨rfl, hb1⟩
 replace hb1 := Below.after (hb _) hb1
 clear cO hg2 hg
 go_wp2
 go_ret
 exact ⟨rfl, hb1⟩
theorem infoFlo : (Tryz.prog.info? 183).map (·.size) = some 1 := by kernel_rfl
set_option maxRecDepth 100000 in
set_option maxHeartbeats 4000000 in
theorem a_fitFlt {utf : List B → Bool} {flE : Nat → Nat → Int} {G : World → Prop} (hp : Plo utf flE G) (n m : Nat) (hn : n < 18446744073709551616) (da : Option Addr) (dl dc : Nat) (pa : Option Addr) (pl pc : Nat) (g : Nat) (w : World) (hg : Bx w g #[.float .f64 (floatOfInt .f64 (m : Int))]) : Calls Tryz.prog 92 #[.agg (vrw n (.slice da dl dc) (.slice pa pl pc)), .pointer (some ⟨g, 0, none⟩)] w fun e w' => e = .returned (.int .i64 (flE n m)) ∧ Below w.heap.size w w' := by
 obtain ⟨T, hg⟩ := hg
 have hlt := lt_of_row hg
 have hb : ∀ o, Below w.heap.size w (w.alloc o) := fun o => (Below.refl _ _).alloc (Nat.le_refl _) _
 have cO := fun V => hp.flt V n m hn
 generalize floatOfInt .f64 (m : Int) = F at *
 have hg2 := fun o => keep (hb o) hg
 have cg := fun o => cell_of_row _ _ 0 _ _ _ (hg2 o)
 replace cO := hide cO
 unfold vrw
 go_enter Tryz.func92, Tryz.ntmps92
 go_wp2_with (first | (refine wpList_load_want rfl 183 _ rfl g rfl T #[.float .f64 F] (0, 0) _ (hg2 _) Tryz.underlying183 rfl infoFlo ?_) | fail)
 refine (cO.out _).mono ?_
 rintro e_ w1 ⟨rfl, hb1⟩
 replace hb1 := Below.after (hb _) hb1
 clear cO hg2 hg cg
 go_wp2
 go_ret
 exact ⟨rfl, hb1⟩
theorem a_slotCheckT {utf : List B → Bool} {flE : Nat → Nat → Int} {G : World → Prop} (hp : Plo utf flE G) {W : World} {S0 : Nat → Prop} {t : Slt} {u : Value} {row : Array Value} (h : SlC W S0 t u row) (hG : G W)
 (hu : nst t → ∃ so sn sc, u = .slice so sn sc)
 (hsub : nst t → ∀ (S : Nat → Prop) (x : VR) (X : VT) (deep : Int) (w : World), VtM w S x X → Below W.heap.size W w → -9223372036854775808 ≤ deep → deep + htT t.sub ≤ 9223372036854775807 → Calls Tryz.prog 33 #[u, .agg (vrv x), .int .i64 deep] w fun e w' => Gup w.heap.size (ckT utf flE t.sub X deep) e w' (fun v => v = .tuple #[]) ∧ Below w.heap.size w w') :
 ∃ wt k1 k2 k3 a1 a2 a3, row = rdv t.no wt k1 k2 k3 a1 a2 a3 ∧ (∀ args W, (callFunc k1 args).run Tryz.prog W = .ok (.enter k1 args) W) ∧
 ∀ (S : Nat → Prop) (x : VR) (X : VT) (deep : Int) (w : World), VtM w S x X → Below W.heap.size W w → -9223372036854775808 ≤ deep → deep + (htT t.sub + 1) ≤ 9223372036854775807 → Calls Tryz.prog k1 (#[.agg (vrv x), .int .i64 deep] ++ a1) w fun e w' => Gup w.heap.size (slT utf flE t X deep) e w' (fun v => v = .tuple #[]) ∧ Below w.heap.size w w' := by
 have num : ∀ (wt l m : Int), PlC W S0 t.no wt 90 #[.int .i64 wt, .int .u64 l, .int .u64 m] row → wt ≠ 2 → isB t.kind = false → t.kind ≠ 8 → t.kind ≠ 9 → (∀ X : VT, plE8 utf flE t.kind t.least t.most X = wth (X.num : Int) l m) → ∃ wt k1 k2 k3 a1 a2 a3, row = rdv t.no wt k1 k2 k3 a1 a2 a3 ∧ (∀ args W, (callFunc k1 args).run Tryz.prog W = .ok (.enter k1 args) W) ∧
  ∀ (S : Nat → Prop) (x : VR) (X : VT) (deep : Int) (w : World), VtM w S x X → Below W.heap.size W w → -9223372036854775808 ≤ deep → deep + (htT t.sub + 1) ≤ 9223372036854775807 → Calls Tryz.prog k1 (#[.agg (vrv x), .int .i64 deep] ++ a1) w fun e w' => Gup w.heap.size (slT utf flE t X deep) e w' (fun v => v = .tuple #[]) ∧ Below w.heap.size w w' := by
  intro wt l m ⟨g0, g1, g2, g4, gs, e, h0, h1, h2, h4, h5⟩ hwt hB h8 h9 hE
  refine ⟨wt, _, _, _, _, _, _, e, ent_plain1, fun S x X deep w hx hb _ _ => ?_⟩
  have hb2 : (wt == 2) = false := by simpa using hwt
  rw [hb2] at h4
  obtain ⟨en, enb, ed, edb, ep⟩ := hx.num_eq
  rw [slT_pl utf flE h8 h9, hE X, hB, ← en, ← ed, ← ep]
  exact a_plain1 _ (.inl rfl) x.num x.da x.dl x.dc x.pa x.pl x.pc deep t.no false _ g4 g0 g2 gs w (h4.2.keep hb) (h0.2.keep hb) (h2.2.keep hb) (fun V hV => a_fitNum x.num x.da x.dl x.dc x.pa x.pl x.pc wt l m gs V (h5.2.keep (Below.after hb hV)))
 rcases h with ⟨hk, h⟩ | ⟨hk, h⟩ | ⟨hk, h⟩ | ⟨hk, h⟩ | ⟨hk, h⟩ | ⟨hk, h⟩ | ⟨hk, h⟩ | ⟨hk, h⟩
 ·exact num 0 _ _ h (by decide) (by rw [hk]; rfl) (by omega) (by omega) (fun X => by unfold plE8; rw [if_neg (by omega), if_neg (by omega), if_neg (by omega), if_neg (by omega)])
 ·exact num 5 _ _ h (by decide) (by rw [hk]; rfl) (by omega) (by omega) (fun X => by unfold plE8; rw [if_neg (by omega), if_neg (by omega), if_neg (by omega), if_neg (by omega)])
 ·exact num 1 _ _ h (by decide) (by rw [hk]; rfl) (by omega) (by omega) (fun X => by unfold plE8; rw [if_neg (by omega), if_neg (by omega), if_neg (by omega), if_neg (by omega)])
 ·exact num 0 _ _ h (by decide) (by rw [hk]; rfl) (by omega) (by omega) (fun X => by unfold plE8; rw [if_neg (by omega), if_neg (by omega), if_neg (by omega), if_pos hk])
 ·obtain ⟨g0, g1, g2, g4, gs, e, h0, h1, h2, h4, h5⟩ := h
  refine ⟨2, _, _, _, _, _, _, e, ent_plain1, fun S x X deep w hx hb _ _ => ?_⟩
  obtain ⟨en, enb, ed, edb, ep⟩ := hx.num_eq
  rw [slT_pl utf flE (by omega) (by omega), ← en, ← ed, ← ep]
  rcases hk with hk | hk
  ·rw [show (t.kind == 6) = false by rw [hk]; rfl] at h5
   rw [show isB t.kind = true by rw [hk]; rfl, show plE8 utf flE t.kind t.least t.most X = wth (x.dl : Int) (t.least : Int) (t.most : Int) by unfold plE8; rw [if_pos hk, ed]]
   exact a_plain1 _ (.inr (.inr rfl)) x.num x.da x.dl x.dc x.pa x.pl x.pc deep t.no true _ g4 g0 g2 gs w (h4.2.keep hb) (h0.2.keep hb) (h2.2.keep hb) (fun V hV => a_fitOct x.num x.da x.dl x.dc x.pa x.pl x.pc _ _ (by omega) gs V (h5.2.keep (Below.after hb hV)))
  ·rw [show (t.kind == 6) = true by rw [hk]; rfl] at h5
   rw [show isB t.kind = true by rw [hk]; rfl, show plE8 utf flE t.kind t.least t.most X = txE utf (t.least : Int) (t.most : Int) X.dat by unfold plE8 txE; rw [if_neg (by omega), if_pos hk]]
   have hBB : BysB w (.slice x.da x.dl x.dc) X.dat ∧ x.dl ≤ x.dc := by
    cases hx with
    | mk x bs xs ps hn hdl hbl hd hdc hds hpl hxl hpc hpm hps hP hs => exact ⟨hd, hdc⟩
   exact a_plain1 _ (.inr (.inr rfl)) x.num x.da x.dl x.dc x.pa x.pl x.pc deep t.no true _ g4 g0 g2 gs w (h4.2.keep hb) (h0.2.keep hb) (h2.2.keep hb) (fun V hV => a_fitTxt hp x.num x.da x.dl x.dc hBB.2 x.pa x.pl x.pc X.dat _ _ (by omega) gs V (hp.keep _ _ hG (Below.after hb hV)) (hBB.1.keep hV) ed (h5.2.keep (Below.after hb hV)))
 ·obtain ⟨g0, g1, g2, g4, gs, e, h0, h1, h2, h4, h5⟩ := h
  refine ⟨1, _, _, _, _, _, _, e, ent_plain1, fun S x X deep w hx hb _ _ => ?_⟩
  obtain ⟨en, enb, ed, edb, ep⟩ := hx.num_eq
  rw [slT_pl utf flE (by omega) (by omega), ← en, ← ed, ← ep]
  rw [show isB t.kind = false by rw [hk]; rfl, show plE8 utf flE t.kind t.least t.most X = flE x.num t.most by unfold plE8; rw [if_neg (by omega), if_neg (by omega), if_pos hk, en]]
  exact a_plain1 _ (.inr (.inl rfl)) x.num x.da x.dl x.dc x.pa x.pl x.pc deep t.no false _ g4 g0 g2 gs w (h4.2.keep hb) (h0.2.keep hb) (h2.2.keep hb) (fun V hV => a_fitFlt hp x.num t.most enb x.da x.dl x.dc x.pa x.pl x.pc gs V (h5.2.keep (Below.after hb hV)))
 ·obtain ⟨so, sn, sc, rfl⟩ := hu (.inl hk)
  obtain ⟨g0, g1, e, h0, h1⟩ := h
  refine ⟨2, _, _, _, _, _, _, e, fun args W => by kernel_rfl, fun S x X deep w hx hb hd1 hd2 => ?_⟩
  have := htT_pos t.sub
  rw [slT_msg utf flE hk]
  exact a_inner1 x deep ⟨hd1, by omega⟩ g1 so sn sc w _ (h1.2.keep hb) (fun V hV => hsub (.inl hk) S x X (deep + 1) V (hx.blw hV) (Below.after hb hV) (by omega) (by omega))
 ·obtain ⟨so, sn, sc, rfl⟩ := hu (.inr hk)
  obtain ⟨g0, g1, g2, y, e, h0, h1, h2⟩ := h
  refine ⟨2, _, _, _, _, _, _, e, fun args W => by kernel_rfl, fun S x X deep w hx hb hd1 hd2 => ?_⟩
  have := htT_pos t.sub
  rw [slT_lst utf flE hk]
  exact a_listed1 x X deep t.no (t.least : Int) (t.most : Int) ⟨hd1, by omega⟩ g0 g1 g2 y so sn sc w (fun Z => ckT utf flE t.sub Z (deep + 1)) hx (h0.2.keep hb) (h1.2.keep hb) (h2.2.keep hb) (fun V z Z hV hZ => hsub (.inr hk) S z Z (deep + 1) V hZ (Below.after hb hV) (by omega) (by omega))
end Go.Proofs.YtejcggjmbjmoeaaGreatDoor
namespace Go.Proofs.YtejcggjmbjmoeaaGreatDoor
set_option maxRecDepth 100000
open Go Go.RowKit Go.Sort
attribute [local go_sem] setCell_drewN alloc_drewN
set_option maxRecDepth 100000 in
set_option maxHeartbeats 8000000 in
theorem a_checkT {utf : List B → Bool} {flE : Nat → Nat → Int} {G : World → Prop} (hp : Plo utf flE G) {W : World} {S0 : Nat → Prop} {v : Value} {ts : List Slt} (h : RdL W S0 v ts) (hG : G W) : ∀ (S : Nat → Prop) (x : VR) (X : VT) (deep : Int) (w : World), VtM w S x X → Below W.heap.size W w → -9223372036854775808 ≤ deep → deep + htT ts ≤ 9223372036854775807 →
 Calls Tryz.prog 33 #[v, .agg (vrv x), .int .i64 deep] w fun e w' => Gup w.heap.size (ckT utf flE ts X deep) e w' (fun v => v = .tuple #[]) ∧ Below w.heap.size w w' := by
 induction h with
 | mk ao cap ts rows us hl hc hnn h hs ih =>
  intro S x X deep w hX hw hd1 hd2
  obtain ⟨en, enb, ed, edb, ep⟩ := hX.num_eq
  obtain ⟨xs, hP⟩ := hX.split
  obtain ⟨n, da, dl, dc, pa, pl, pc⟩ := x
  simp only at en enb ed edb ep hP
  have eck : ckT utf flE ts X deep = if n ≠ 0 ∨ 0 < dl then some ⟨deep, 0, 84⟩ else if X.parts.length ≠ ts.length then some ⟨deep, 0, 81⟩ else chT utf flE ts X.parts deep := by rw [en, ed]; rfl
  generalize X.parts = ps at *
  obtain ⟨pa', pc', e, hxl, hpc, hpm, hpr, hvt⟩ := hP
  injection e with e1 e2 e3
  subst e1 e2 e3
  have hsl := fun k (hlt : k < ts.length) => fun hSl => a_slotCheckT hp (W := W) (S0 := S0) (t := gs ts k) (u := us k) (row := rows k) hSl hG (fun hn => by obtain ⟨a, c, q⟩ := (hs k hlt hn).form; exact ⟨a, _, c, q⟩) (fun hn => ih k hlt hn)
  unfold vrv
  clear en ed ep hX hs ih
  have hb0 : Below w.heap.size w (w.alloc (.cells (vrw n (.slice da dl dc) (.slice pa ps.length pc)) 27)) := (Below.refl _ _).alloc (Nat.le_refl _) _
  have rV := hp1_0 w (.cells (vrw n (.slice da dl dc) (.slice pa ps.length pc)) 27)
  obtain ⟨R, hR⟩ : ∃ R, ckT utf flE ts X deep = R := ⟨_, rfl⟩
  rw [hR]
  unfold vrw at rV hb0 ⊢
  by_cases hbad : n ≠ 0 ∨ 0 < dl
  ·have eR : R = some ⟨deep, 0, 84⟩ := by rw [← hR, eck, if_pos hbad]
   have cG := a_giveUp deep 0 84
   replace eR := hide eR
   rcases Nat.eq_zero_or_pos n with rfl | hnp
   ·have hd : decide ((dl : Int) > 0) = true := by simp; omega
    go_enter Tryz.func33, Tryz.ntmps33
    go_wp2_with (fail)
    refine (cG _).mono ?_
    rintro e_ w2 ⟨⟨g, rfl, hgl, hgr⟩, hb2⟩
    replace hb2 := Below.after hb0 hb2
    go_wp2
    rw [eR.out]
    exact ⟨rfl, ⟨g, rfl, Nat.le_trans hb0.size hgl, hgr⟩, hb2⟩
   ·have hd : ((n : Int) == 0) = false := by simp; omega
    have hd2 : ¬ (n : Int) = 0 := by omega
    go_enter Tryz.func33, Tryz.ntmps33
    go_wp2_with (fail)
    refine (cG _).mono ?_
    rintro e_ w2 ⟨⟨g, rfl, hgl, hgr⟩, hb2⟩
    replace hb2 := Below.after hb0 hb2
    go_wp2
    rw [eR.out]
    exact ⟨rfl, ⟨g, rfl, Nat.le_trans hb0.size hgl, hgr⟩, hb2⟩
  ·obtain rfl : n = 0 := by omega
   obtain rfl : dl = 0 := by omega
   by_cases hln : ps.length = ts.length
   ·have eR : R = chT utf flE (ts.drop 0) (ps.drop 0) deep := by rw [← hR, eck, if_neg (by omega), if_neg (by omega)]; rfl
    have hle3 := hide hln
    rw [hln] at rV hb0 ⊢
    clear hR hbad
    rw [hln] at hpc
    clear hln
    replace eR := hide eR
    go_enter Tryz.func33, Tryz.ntmps33
    go_wp2_with (fail)
    generalize w.alloc (.cells #[.int .u64 ((0 : Nat) : Int), .slice da 0 dc, .slice pa ts.length pc] 27) = w0 at *
    go_loopw [29, 6, 7] (fun i _ _ wr => ∃ k : Nat, k ≤ ts.length ∧ i = .int .i64 k ∧ R = chT utf flE (ts.drop k) (ps.drop k) deep ∧ Below w.heap.size w wr ∧ wr.heap[w.heap.size]? = some (.cells #[.int .u64 ((0 : Nat) : Int), .slice da 0 dc, .slice pa ts.length pc] 27 (0, 0))) (fun i _ _ _ => ts.length - (intOf i).toNat)
    case atStart => exact ⟨0, by omega, rfl, eR.out, hb0, rV⟩
    case round =>
     clear rV hb0 eR
     obtain ⟨k, hk, rfl, eR, hb, rV⟩ := hrel
     have hww := Below.after hw hb
     by_cases hlt : k < ts.length
     ·have hd : decide ((k : Int) < (ts.length : Int)) = true := by simp; omega
      have hlx := hle3.out
      obtain ⟨b, rfl, hbl, _, hra, hSl⟩ := h k hlt
      obtain ⟨pb, poff, rfl, hpb, hpra⟩ := hpr k (by omega)
      obtain ⟨wt, k1, k2, k3, a1, a2, a3, hrow, hent, hcall⟩ := hsl k hlt hSl
      rw [hrow] at hra
      have hrw := rangeS_keep2 hra hww hbl
      have hpw := rangeS_keep2 hpra hb hpb
      rw [chT_drop utf flE hlt (by omega)] at eR
      have hht := htT_sub ts k hlt
      have cC := fun V hV (hz : VtM V S (gx xs k) (gvt ps k)) => hcall S _ _ deep V hz hV hd1 (by omega)
      have hvz := hvt k (by omega)
      have hlb := lt_of_row rV
      have hba : Below wr.heap.size wr (wr.alloc (.cells #[.int .i64 0, .int .i64 0, .nilFunc, .nilFunc, .nilFunc] 114)) := (Below.refl _ _).alloc (Nat.le_refl _) _
      have rS := hp1_0 wr (.cells #[.int .i64 0, .int .i64 0, .nilFunc, .nilFunc, .nilFunc] 114)
      have hbb := below_setRow (g := wr.heap.size) hba (Nat.le_refl _) (rdv (gs ts k).no wt k1 k2 k3 a1 a2 a3)
      have rS2 := setRow_heap _ wr.heap.size _ (rdv (gs ts k).no wt k1 k2 k3 a1 a2 a3) _ _ rS
      replace rV := keep hbb rV
      replace hpw := rangeS_keep2 hpw hbb (Nat.lt_of_lt_of_le hpb hb.size)
      have hpb2 := Nat.lt_of_lt_of_le hpb hb.size
      replace hb := Below.after hb hbb
      replace hww := Below.after hww hbb
      generalize (gs ts k).no = no at *
      obtain ⟨F, hF⟩ : ∃ F, slT utf flE (gs ts k) (gvt ps k) deep = F := ⟨_, rfl⟩
      rw [hF] at eR cC
      generalize gvt ps k = Z at *
      generalize gx xs k = x at *
      obtain ⟨xn, xda, xdl, xdc, xpa, xpl, xpc⟩ := x
      replace hvz := hide hvz
      have eR2 := hide eR
      have A1 := hide rV
      have A2 := hide hpw
      have A3 := hide hb
      have A4 := hide hww
      have A5 := hide rS2
      have A6 := hide cC
      have hone : (rdv no wt k1 k2 k3 a1 a2 a3).all (·.oneCell') = true := by simp [rdv, Value.oneCell']
      clear eR rV hpw hb hww rS2 cC hF hcall hSl hrow hra hpra h hpr hvt hsl hba hbb eck hht
      unfold rdv vrv vrw at *
      go_wp2_with (first | (refine wpList_load_mid rfl 114 _ rfl b (k * 5) rfl _ _ hrw Tryz.underlying114 rfl infoSt' ?_) | (refine wpList_store_row rfl 114 _ _ rfl wr.heap.size #[.int .i64 no, .int .i64 wt, .func (.func k1) #[] a1, .func (.func k2) #[] a2, .func (.func k3) #[] a3] rfl rfl 114 _ rS infoSt' rfl hone ?_) | fail)
      have hS0 : (fun W : World => W.heap[wr.heap.size]? = some (.cells #[.int .i64 no, .int .i64 wt, .func (.func k1) #[] a1, .func (.func k2) #[] a2, .func (.func k3) #[] a3] 114 (0, 0)) ∧ W.heap[w.heap.size]? = some (.cells #[.int .u64 ((0 : Nat) : Int), .slice da 0 dc, .slice (some ⟨pb, poff, none⟩) ts.length pc] 27 (0, 0)) ∧ W.rangeAt pb (poff + k * 3) [.int .u64 (xn : Int), .slice xda xdl xdc, .slice xpa xpl xpc]) _ := ⟨A5.out, A1.out, A2.out⟩
      refine wp_region_held (S := fun W : World => W.heap[wr.heap.size]? = some (.cells #[.int .i64 no, .int .i64 wt, .func (.func k1) #[] a1, .func (.func k2) #[] a2, .func (.func k3) #[] a3] 114 (0, 0)) ∧ W.heap[w.heap.size]? = some (.cells #[.int .u64 ((0 : Nat) : Int), .slice da 0 dc, .slice (some ⟨pb, poff, none⟩) ts.length pc] 27 (0, 0)) ∧ W.rangeAt pb (poff + k * 3) [.int .u64 (xn : Int), .slice xda xdl xdc, .slice xpa xpl xpc]) (by kernel_rfl) ?_
      change wpAnyH _ _ _ _ _ _ _ _ (World.drew _)
      generalize (wr.alloc (.cells #[.int .i64 0, .int .i64 0, .nilFunc, .nilFunc, .nilFunc] 114)).setRow wr.heap.size #[.int .i64 no, .int .i64 wt, .func (.func k1) #[] a1, .func (.func k2) #[] a2, .func (.func k3) #[] a3] = w2 at *
      have hbd : Below w2.heap.size w2 w2.drew := below_drN (Below.refl _ _) 1
      replace hS0 : (fun W : World => W.heap[wr.heap.size]? = some (.cells #[.int .i64 no, .int .i64 wt, .func (.func k1) #[] a1, .func (.func k2) #[] a2, .func (.func k3) #[] a3] 114 (0, 0)) ∧ W.heap[w.heap.size]? = some (.cells #[.int .u64 ((0 : Nat) : Int), .slice da 0 dc, .slice (some ⟨pb, poff, none⟩) ts.length pc] 27 (0, 0)) ∧ W.rangeAt pb (poff + k * 3) [.int .u64 (xn : Int), .slice xda xdl xdc, .slice xpa xpl xpc]) w2.drew := hS0
      have hb := Below.after A3.out hbd
      have hww := Below.after A4.out hbd
      clear A1 A2 A3 A4 A5 hbd
      generalize w2.drew = w3 at *
      refine wpAnyH_take (i := 0) (v := ?v1) rfl (by kernel_rfl) (by kernel_rfl) (by kernel_rfl) (fun _ _ _ h => h) (Or.inl ⟨by rfl, ?y1⟩) hS0 ?r1
      case y1 =>
       intro w_ hS_
       go_simp
       try with_reducible rfl
      simp only [Act.put, List.getElem_toArray, List.getElem_cons_zero, List.setIfInBounds_toArray, List.set_cons_succ, List.set_cons_zero]
      refine wpAnyH_take (i := 1) (v := .func (.func k1) #[] a1) rfl (by kernel_rfl) (by kernel_rfl) (by kernel_rfl) (fun _ _ _ h => h) (Or.inl ⟨by rfl, ?y2⟩) hS0 ?r2
      case y2 =>
       intro w_ hS_
       have c_ := cell_of_row _ _ 2 _ _ _ hS_.1
       go_simp
       try with_reducible rfl
      simp only [Act.put, List.getElem_toArray, List.getElem_cons_succ, List.getElem_cons_zero, List.setIfInBounds_toArray, List.set_cons_succ, List.set_cons_zero]
      refine wpAnyH_take (i := 2) (v := ?v3) rfl (by kernel_rfl) (by kernel_rfl) (by kernel_rfl) (fun _ _ _ h => h) (Or.inl ⟨by rfl, ?y3⟩) hS0 ?r3
      case y3 =>
       intro w_ hS_
       go_simp
       try with_reducible rfl
      simp only [Act.put, List.getElem_toArray, List.getElem_cons_succ, List.getElem_cons_zero, List.setIfInBounds_toArray, List.set_cons_succ, List.set_cons_zero]
      refine wpAnyH_take (i := 3) (v := .slice (some ⟨pb, poff, none⟩) ts.length pc) rfl (by kernel_rfl) (by kernel_rfl) (by kernel_rfl) (fun _ _ _ h => h) (Or.inl ⟨by rfl, ?y4⟩) hS0 ?r4
      case y4 =>
       intro w_ hS_
       have c_ := cell_of_row _ _ 2 _ _ _ hS_.2.1
       go_simp
       try with_reducible rfl
      simp only [Act.put, List.getElem_toArray, List.getElem_cons_succ, List.getElem_cons_zero, List.setIfInBounds_toArray, List.set_cons_succ, List.set_cons_zero]
      refine wpAnyH_take (i := 4) (v := ?v5) rfl (by kernel_rfl) (by kernel_rfl) (by kernel_rfl) (fun _ _ _ h => h) (Or.inl ⟨by rfl, ?y5⟩) hS0 ?r5
      case y5 =>
       intro w_ hS_
       go_simp
       try with_reducible rfl
      simp only [Act.put, List.getElem_toArray, List.getElem_cons_succ, List.getElem_cons_zero, List.setIfInBounds_toArray, List.set_cons_succ, List.set_cons_zero]
      refine wpAnyH_take (i := 5) (v := ?v6) rfl (by kernel_rfl) (by kernel_rfl) (by kernel_rfl) (fun _ _ _ h => h) (Or.inl ⟨by rfl, ?y6⟩) hS0 ?r6
      case y6 =>
       intro w_ hS_
       go_simp
       try with_reducible rfl
      simp only [Act.put, List.getElem_toArray, List.getElem_cons_succ, List.getElem_cons_zero, List.setIfInBounds_toArray, List.set_cons_succ, List.set_cons_zero]
      refine wpAnyH_take (i := 6) (v := .agg #[.int .u64 (xn : Int), .slice xda xdl xdc, .slice xpa xpl xpc]) rfl (by kernel_rfl) (by kernel_rfl) (by kernel_rfl) (fun _ _ _ h => h) (yieldsIf_load_mid (by rfl) 27 _ rfl pb (poff + k * 3) rfl [.int .u64 (xn : Int), .slice xda xdl xdc, .slice xpa xpl xpc] _ (fun _ h => h.2.2) Tryz.underlying27 rfl infoV) hS0 ?_
      simp only [Act.put, List.getElem_toArray, List.getElem_cons_succ, List.getElem_cons_zero, List.setIfInBounds_toArray, List.set_cons_succ, List.set_cons_zero]
      refine wpAnyH_take (i := 7) (v := ?v7) rfl (by kernel_rfl) (by kernel_rfl) (by kernel_rfl) (fun _ _ _ h => h) (Or.inl ⟨by rfl, ?y7⟩) hS0 ?r7
      case y7 =>
       intro w_ hS_
       go_simp
       try with_reducible rfl
      simp only [Act.put, List.getElem_toArray, List.getElem_cons_succ, List.getElem_cons_zero, List.setIfInBounds_toArray, List.set_cons_succ, List.set_cons_zero]
      refine wpAnyH_one (k := 8) (fuel := 0) (by kernel_rfl) rfl (by kernel_rfl) (fun K_ hK => ?_)
      have c := A6.out w3 hww (hvz.out.blw hb)
      clear A6
      refine wp_call_up (base := w3.heap.size) (F := F) (R := fun v => v = .tuple #[]) (B := fun w' => Below w3.heap.size w3 w') ?hx c ?_ ?_
      case hx => exact run_call_val (.tmp 35) #[.tmp 40, .tmp 41] #[27, 3] rfl rfl _ (by simp only [List.map_toArray, List.map_cons, List.map_nil]; rfl) hent
      ·intro hF v_ w4 hv hb4
       subst hv
       subst hF
       have hl1 := lt_of_row hS0.1
       have hl2 := lt_of_row hS0.2.1
       refine hK _ _ ⟨keep hb4 hS0.1, keep hb4 hS0.2.1, rangeS_keep2 hS0.2.2 hb4 (Nat.lt_of_lt_of_le hpb2 (by omega))⟩ ?_
       simp only [Act.put, List.getElem_toArray, List.getElem_cons_succ, List.getElem_cons_zero, List.setIfInBounds_toArray, List.set_cons_succ, List.set_cons_zero]
       clear hK c
       replace hb := Below.after hb hb4
       have rV2 := keep hb4 hS0.2.1
       have B1 := hide hb
       have B2 := hide rV2
       clear hb rV2 hS0 hb4 hww
       refine wpAnyH_done (by kernel_rfl) ?_ _
       go_wp2_with (fail)
       refine ⟨⟨_, _, _, ⟨k + 1, by omega, by go_num, eR2.out, B1.out, B2.out⟩, rfl, rfl, rfl⟩, ?_⟩
       simp [intOf]; omega
      ·intro x hF g w4 h1 h2 hb4
       subst hF
       have hsz := hb.size
       replace hb := Below.after hb hb4
       go_wp2_with (fail)
       rw [eR2.out]
       exact ⟨rfl, ⟨g, rfl, by omega, h2⟩, hb⟩
     ·have hd : decide ((k : Int) < (ts.length : Int)) = false := by simp; omega
      obtain rfl : k = ts.length := by omega
      rw [List.drop_length, chT_nil] at eR
      replace eR := hide eR
      clear h hpr hvt hsl eck
      go_wp2_with (fail)
      go_end0
      rw [eR.out]
      exact ⟨⟨_, rfl, rfl⟩, hb⟩
   ·have eR : R = some ⟨deep, 0, 81⟩ := by rw [← hR, eck, if_neg (by omega), if_pos hln]
    have cG := a_giveUp deep 0 81
    have hle : ((ps.length : Int) == (ts.length : Int)) = false := by simp; omega
    have hle2 : ¬ (ps.length : Int) = (ts.length : Int) := by omega
    replace eR := hide eR
    go_enter Tryz.func33, Tryz.ntmps33
    go_wp2_with (fail)
    refine (cG _).mono ?_
    rintro e_ w2 ⟨⟨g, rfl, hgl, hgr⟩, hb2⟩
    replace hb2 := Below.after hb0 hb2
    go_wp2
    rw [eR.out]
    exact ⟨rfl, ⟨g, rfl, Nat.le_trans hb0.size hgl, hgr⟩, hb2⟩
end Go.Proofs.YtejcggjmbjmoeaaGreatDoor
namespace Go.Proofs.YtejcggjmbjmoeaaGreatDoor
set_option maxRecDepth 100000
open Go Go.RowKit Go.Sort
attribute [local go_sem] setCell_drewN alloc_drewN
/-! A message's bytes, on trees. -/
def FtW (W : World) (base : Nat) (v : Value) (us : List Value) (fs : List Fd) : Prop :=
 W.ownsRow base 118 4 v fs.length (frs fs us) ∧ us.length = fs.length ∧ ∀ i, i < us.length → BysB W (gv us i) (gf fs i).dat ∧ Fok (gf fs i) ∧ ∃ da dl dc, gv us i = .slice da dl dc ∧ ∀ a, lv dl da = some a → a.block < W.heap.size ∧ v.ownBlock ≠ some a.block
theorem FtW.keep {W V : World} {b : Nat} {v : Value} {us : List Value} {fs : List Fd} (h : FtW W b v us fs) (hb : Below W.heap.size W V) : FtW V b v us fs := by
 refine ⟨own_keep_row h.1 hb, h.2.1, fun i hi => ?_⟩
 obtain ⟨h1, h2, da, dl, dc, e, h3⟩ := h.2.2 i hi
 exact ⟨h1.keep hb, h2, da, dl, dc, e, fun a ea => ⟨Nat.lt_of_lt_of_le (h3 a ea).1 hb.size, (h3 a ea).2⟩⟩
end Go.Proofs.YtejcggjmbjmoeaaGreatDoor
namespace Go.Proofs.YtejcggjmbjmoeaaGreatDoor
set_option maxRecDepth 100000
open Go Go.RowKit Go.Sort
attribute [local go_sem] setCell_drewN alloc_drewN
end Go.Proofs.YtejcggjmbjmoeaaGreatDoor
namespace Go.Proofs.YtejcggjmbjmoeaaGreatDoor
set_option maxRecDepth 100000
open Go Go.RowKit Go.Sort
attribute [local go_sem] setCell_drewN alloc_drewN
end Go.Proofs.YtejcggjmbjmoeaaGreatDoor
namespace Go.Proofs.YtejcggjmbjmoeaaGreatDoor
set_option maxRecDepth 100000
open Go Go.RowKit Go.Sort
attribute [local go_sem] setCell_drewN alloc_drewN
end Go.Proofs.YtejcggjmbjmoeaaGreatDoor
namespace Go.Proofs.YtejcggjmbjmoeaaGreatDoor
set_option maxRecDepth 100000
open Go Go.RowKit Go.Sort
attribute [local go_sem] setCell_drewN alloc_drewN
end Go.Proofs.YtejcggjmbjmoeaaGreatDoor
namespace Go.Proofs.YtejcggjmbjmoeaaGreatDoor
set_option maxRecDepth 100000
open Go Go.RowKit Go.Sort
attribute [local go_sem] setCell_drewN alloc_drewN
section
variable {P : Program} {ops : Array Oper} {Q : Exit → Act → World → Prop} {md : Region.Mode} {S : World → Prop}
end
end Go.Proofs.YtejcggjmbjmoeaaGreatDoor
namespace Go.Proofs.YtejcggjmbjmoeaaGreatDoor
set_option maxRecDepth 100000
open Go Go.RowKit Go.Sort
/-! What is cut short. -/
end Go.Proofs.YtejcggjmbjmoeaaGreatDoor
namespace Go.Proofs.YtejcggjmbjmoeaaGreatDoor
set_option maxRecDepth 100000
open Go Go.RowKit Go.Sort
/-! Parts of a list of fields. -/
theorem gf_take (fs : List Fd) (k i : Nat) (h : i < k) : gf (fs.take k) i = gf fs i := by
 rw [gf, gf, List.getD_eq_getElem?_getD, List.getD_eq_getElem?_getD, List.getElem?_take_of_lt h]
theorem Fds.take {W : World} {ao : Option Addr} {cap l : Nat} {fs : List Fd} (h : Fds W (.slice ao l cap) fs) (k : Nat) (hk : k ≤ fs.length) : Fds W (.slice ao k cap) (fs.take k) := by
 obtain ⟨ao', cap', e, h1, h2, h3, h4⟩ := h
 cases e
 have hl : (fs.take k).length = k := by rw [List.length_take, Nat.min_eq_left hk]
 refine ⟨ao, cap, by rw [hl], by omega, by omega, h3, fun i hi => ?_⟩
 rw [hl] at hi
 rw [gf_take fs k i hi]
 exact h4 i (by omega)
end Go.Proofs.YtejcggjmbjmoeaaGreatDoor
namespace Go.Proofs.YtejcggjmbjmoeaaGreatDoor
set_option maxRecDepth 100000
open Go Go.RowKit Go.Sort
attribute [local go_sem] setCell_drewN alloc_drewN
theorem Fts.at {W : World} {b : Nat} {v : Value} {us : List Value} {fs : List Fd} (h : Fts W b v us fs) {i : Nat} (hi : i < fs.length) : ∃ g cap, v = .slice (some ⟨g, 0, none⟩) fs.length cap ∧ b ≤ g ∧ g < W.heap.size ∧ W.rangeAt g (i * 4) (frow (gf fs i) (gv us i)) := by
 obtain ⟨h1, h2, h3, _⟩ := h
 have h1' := h1
 obtain ⟨_, ⟨rfl, h0⟩ | ⟨g, cap, cur, rfl, hb, hg, hn, hm, hs, ht⟩⟩ := h1'
 ·omega
 ·refine ⟨g, cap, rfl, hb, lt_of_row hg, fun j x hx => ?_⟩
  have hj : j < 4 := by have := (List.getElem?_eq_some_iff.1 hx).1; exact this
  have := h1.cells (g := g) rfl (i * 4 + j) x (by rw [frs_at fs us i j h2 hi hj]; exact hx)
  rw [addr_add, Nat.zero_add] at this
  exact this
end Go.Proofs.YtejcggjmbjmoeaaGreatDoor
namespace Go.Proofs.YtejcggjmbjmoeaaGreatDoor
set_option maxRecDepth 100000
open Go Go.RowKit Go.Sort
attribute [local go_sem] setCell_drewN alloc_drewN
theorem But.setRow {g : Nat} (w : World) (cs : Array Value) : But g w (w.setRow g cs) := ⟨rfl, rfl, rfl, by simp, fun k _ hne => setRow_other w g k cs hne⟩
end Go.Proofs.YtejcggjmbjmoeaaGreatDoor
namespace Go.Proofs.YtejcggjmbjmoeaaGreatDoor
set_option maxRecDepth 100000
open Go Go.RowKit Go.Sort
attribute [local go_sem] setCell_drewN alloc_drewN
/-! What decode finds, and what it reads, on trees. -/
section
variable (utf : List B → Bool) (flE : Nat → Nat → Int)
end
def vrs : List VR → List Value
 | [] => []
 | x :: xs => (vrv x).toList ++ vrs xs
theorem vrs_at : ∀ (xs : List VR) (i j : Nat), i < xs.length → j < 3 → (vrs xs)[i * 3 + j]? = (vrv (gx xs i)).toList[j]?
 | [], _, _, h, _ => by simp at h
 | x :: xs, 0, j, _, hj => by
  rw [vrs, Nat.zero_mul, Nat.zero_add, List.getElem?_append_left (by show j < 3; exact hj)]
  rfl
 | x :: xs, i + 1, j, h, hj => by
  rw [vrs, List.getElem?_append_right (by show 3 ≤ _; omega)]
  have : (i + 1) * 3 + j - (vrv x).toList.length = i * 3 + j := by show _ - 3 = _; omega
  rw [this, vrs_at xs i j (by simpa using h) hj]
  rfl
def PaW (W : World) (lo base : Nat) (v : Value) (xs : List VR) (ps : List VT) : Prop :=
 W.ownsRow base 27 3 v ps.length (vrs xs) ∧ xs.length = ps.length ∧ ∀ i, i < ps.length → VtM W (fun b => lo ≤ b ∧ v.ownBlock ≠ some b) (gx xs i) (gvt ps i)
theorem PaW.keep {W V : World} {lo base : Nat} {v : Value} {xs : List VR} {ps : List VT} (h : PaW W lo base v xs ps) (hb : Below W.heap.size W V) : PaW V lo base v xs ps :=
 ⟨own_keep_row h.1 hb, h.2.1, fun i hi => (h.2.2 i hi).blw hb⟩
theorem gx_lo {xs : List VR} {x : VR} {i : Nat} (h : i < xs.length) : gx (xs ++ [x]) i = gx xs i := by
 rw [gx, gx, List.getD_eq_getElem?_getD, List.getElem?_append_left h, ← List.getD_eq_getElem?_getD]
theorem gx_hi {xs : List VR} {x : VR} : gx (xs ++ [x]) xs.length = x := by
 rw [gx, List.getD_eq_getElem?_getD, List.getElem?_append_right (Nat.le_refl _), Nat.sub_self]; rfl
theorem PaW.msg {W : World} {lo base : Nat} {v : Value} {xs : List VR} {ps : List VT} (h : PaW W lo base v xs ps) (hl : lo ≤ base) (hm : ps.length ≤ 5864062014634) : ∃ pa pc, v = .slice pa ps.length pc ∧ VtM W (fun b => lo ≤ b) ⟨0, none, 0, 0, pa, ps.length, pc⟩ (.mk 0 [] ps) := by
 obtain ⟨h1, h2, h3⟩ := h
 have h1' := h1
 have hB0 : BysB W (.slice none 0 0) ([] : List B) := ⟨⟨none, 0, rfl, by decide, fun j hj => by simp [bl] at hj, by simp [bl]⟩, by decide, fun a l c e _ => by cases e; rfl⟩
 have hs : ∀ i, i < ps.length → VtM W (fun b => lo ≤ b) (gx xs i) (gvt ps i) := fun i hi => (h3 i hi).keep ⟨Nat.le_refl _, fun b _ hS => ⟨rfl, hS.1⟩⟩
 obtain ⟨_, ⟨rfl, h0⟩ | ⟨g, cap, cur, rfl, hb, hg, hn, hmx, hsz, ht⟩⟩ := h1'
 ·refine ⟨none, 0, by rw [h0], .mk ⟨0, none, 0, 0, none, ps.length, 0⟩ [] xs ps (by show 0 < 18446744073709551616; decide) rfl (by decide) hB0 (Nat.le_refl _) (fun a e => by cases lv_some e) rfl h2 (by omega) hm (fun a e => by cases lv_some e) (fun i hi => by omega) hs⟩
 ·refine ⟨some ⟨g, 0, none⟩, cap, rfl, .mk ⟨0, none, 0, 0, some ⟨g, 0, none⟩, ps.length, cap⟩ [] xs ps (by show 0 < 18446744073709551616; decide) rfl (by decide) hB0 (Nat.le_refl _) (fun a e => by cases lv_some e) rfl h2 hn hm (fun a e => by cases lv_some e; exact ⟨Nat.le_trans hl hb, lt_of_row hg⟩) (fun i hi => ⟨g, 0, rfl, fun j x hx => ?_⟩) hs⟩
  have hj : j < 3 := by have := (List.getElem?_eq_some_iff.1 hx).1; exact this
  have := h1.cells (g := g) rfl (i * 3 + j) x (by rw [vrs_at xs i j (by omega) hj]; exact hx)
  rw [add_off] at this
  rw [← this, Nat.zero_add]
end Go.Proofs.YtejcggjmbjmoeaaGreatDoor
namespace Go.Proofs.YtejcggjmbjmoeaaGreatDoor
set_option maxRecDepth 100000
open Go Go.RowKit Go.Sort
attribute [local go_sem] setCell_drewN alloc_drewN
structure Fdk (W : World) (P : Nat → Prop) (f : Fd) (da : Option Addr) (dc : Nat) (at_ : Int) : Prop where
 hB : BysB W (.slice da f.dat.length dc) f.dat
 hc : f.dat.length ≤ dc
 hi : InS W P da
 ok : Fok f
 no0 : 0 ≤ f.no
 no1 : f.no ≤ 536870911
 kn : known f.ty
 fb : (fby f).length ≤ 4194304
 a0 : 0 ≤ at_
 a1 : at_ + ((fby f).length : Int) ≤ 1152921504606846976
theorem Fdk.keep {W V : World} {P : Nat → Prop} {f : Fd} {da : Option Addr} {dc : Nat} {at_ : Int} (h : Fdk W P f da dc at_) (hb : Below W.heap.size W V) : Fdk V P f da dc at_ :=
 ⟨h.hB.keep hb, h.hc, fun a e => ⟨(h.hi a e).1, Nat.lt_of_lt_of_le (h.hi a e).2 hb.size⟩, h.ok, h.no0, h.no1, h.kn, h.fb, h.a0, h.a1⟩
theorem VtM.other {W : World} {S T : Nat → Prop} {x : VR} {X : VT} (h : VtM W S x X) (g : Nat) (cs : Array Value) (hk : ∀ b, S b → b ≠ g ∧ T b) : VtM (W.setRow g cs) T x X := h.keep ⟨by simp, fun b _ hS => ⟨setRow_other W g b cs (hk b hS).1, (hk b hS).2⟩⟩
end Go.Proofs.YtejcggjmbjmoeaaGreatDoor
namespace Go.Proofs.YtejcggjmbjmoeaaGreatDoor
set_option maxRecDepth 100000
open Go Go.RowKit Go.Sort
attribute [local go_sem] setCell_drewN alloc_drewN
end Go.Proofs.YtejcggjmbjmoeaaGreatDoor
namespace Go.Proofs.YtejcggjmbjmoeaaGreatDoor
set_option maxRecDepth 100000
open Go Go.RowKit Go.Sort
attribute [local go_sem] setCell_drewN alloc_drewN
end Go.Proofs.YtejcggjmbjmoeaaGreatDoor
namespace Go.Proofs.YtejcggjmbjmoeaaGreatDoor
set_option maxRecDepth 100000
open Go Go.RowKit Go.Sort
attribute [local go_sem] setCell_drewN alloc_drewN
section
variable (utf : List B → Bool) (flE : Nat → Nat → Int)
end
set_option maxRecDepth 100000 in
set_option maxHeartbeats 4000000 in
theorem a_CheckT {utf : List B → Bool} {flE : Nat → Nat → Int} {G : World → Prop} (hp : Plo utf flE G) {g : Nat} {ts : List Slt} (S : Nat → Prop) (x : VR) (X : VT) (w : World) (hG : G w) (hC : Cdc w g ts) (hX : VtM w S x X) (hh : 1 + (htT ts : Int) ≤ 9223372036854775807) :
 Calls Tryz.prog 12 #[.pointer (some ⟨g, 0, none⟩), .agg (vrv x)] w fun e w' => Cgt w.heap.size (ckT utf flE ts X 1) e w' ∧ Below w.heap.size w w' := by
 obtain ⟨xv, hR, hg⟩ := hC
 obtain ⟨xo, xc, rfl⟩ := hR.form
 have hcf := fun V hV => a_checkT hp hR hG S x X 1 V (hX.blw hV) hV (by omega) hh
 clear hX hh
 obtain ⟨n, da, dl, dc, pa, pl, pc⟩ := x
 unfold vrv at hcf ⊢
 generalize ckT utf flE ts X 1 = F at *
 unfold vrw at hcf ⊢
 have hb : Below w.heap.size w ((w.alloc (.cells #[.pointer (some ⟨g, 0, none⟩)] 30)).alloc (.cells #[.int .u64 (n : Int), .slice da dl dc, .slice pa pl pc] 27)) := ((Below.refl _ _).alloc (Nat.le_refl _) _).alloc (by simp) _
 have r0 := hp2_0 w (.cells #[.pointer (some ⟨g, 0, none⟩)] 30) (.cells #[.int .u64 (n : Int), .slice da dl dc, .slice pa pl pc] 27)
 have r1 := hp2_1 w (.cells #[.pointer (some ⟨g, 0, none⟩)] 30) (.cells #[.int .u64 (n : Int), .slice da dl dc, .slice pa pl pc] 27)
 have rg := keep hb hg
 have cK := a_caughtC F (.pointer (some ⟨w.heap.size, 0, none⟩)) (.pointer (some ⟨w.heap.size + 1, 0, none⟩)) ((w.alloc (.cells #[.pointer (some ⟨g, 0, none⟩)] 30)).alloc (.cells #[.int .u64 (n : Int), .slice da dl dc, .slice pa pl pc] 27)) (fun V hV => a_check1 F w.heap.size (w.heap.size + 1) g xo ts.length xc _ _ n da dl dc pa pl pc V ⟨_, keep hV r0⟩ ⟨_, keep hV r1⟩ ⟨_, keep hV rg⟩ (fun V' hV' => hcf V' (Below.after (Below.after hb hV) hV')))
 have h0 := hmf
 have A1 := hide hb
 clear hcf hb r0 r1 rg hg hR
 go_enter Tryz.func12, Tryz.ntmps12
 go_wp2_with (fail)
 refine cK.mono ?_
 rintro e_ w1 ⟨hG, hb1⟩
 replace hb1 := Below.after A1.out hb1
 have hsz := A1.out.size
 cases F with
 | none =>
  obtain rfl : e_ = .returned .nilIface := hG
  go_wp2_with (fail)
  go_ret
  exact ⟨rfl, hb1⟩
 | some f =>
  obtain ⟨q, rfl, h1, h2⟩ := hG
  go_wp2_with (fail)
  go_ret
  exact ⟨⟨q, rfl, Nat.le_trans hsz h1, h2⟩, hb1⟩
theorem VtM.but {W V : World} {n g : Nat} {x : VR} {X : VT} (h : VtM W (fun b => n ≤ b) x X) (hb : But g W V) (hg : g < n) : VtM V (fun b => n ≤ b) x X := h.keep ⟨hb.size, fun b hlt hS => ⟨hb.block b hlt (by omega), hS⟩⟩
end Go.Proofs.YtejcggjmbjmoeaaGreatDoor
namespace Go.Proofs.YtejcggjmbjmoeaaGreatDoor
set_option maxRecDepth 100000
open Go Go.RowKit Go.Sort
attribute [local go_sem] setCell_drewN alloc_drewN
/-! What is wrong with a float's bits. -/
theorem run_bits8 (x : Nat) (w : World) : (callFunc 138 #[.float .f64 x]).run Tryz.prog w = .ok (.value (.int .u64 x)) w := by
 rw [run_callFunc_extern Tryz.func138 (by kernel_rfl) (by kernel_rfl) (by kernel_rfl) (e := Extern.MathFloatBits.float64bits) (by kernel_rfl)]; rfl
theorem run_frombits8 (z : Int) (w : World) : (callFunc 117 #[.int .u64 z]).run Tryz.prog w = .ok (.value (.float .f64 z.toNat)) w := by
 rw [run_callFunc_extern Tryz.func117 (by kernel_rfl) (by kernel_rfl) (by kernel_rfl) (e := Extern.MathFloatBits.float64frombits) (by kernel_rfl)]; rfl
theorem abs_bits8 {b : Nat} (hb : b < 18446744073709551616) : (bits .andNot .u64 (b : Int) 9223372036854775808).toNat = b % 9223372036854775808 := by
 rw [show (9223372036854775808 : Int) = ((9223372036854775808 : Nat) : Int) from rfl, u64_andNot_nat b _ hb (by decide), Int.toNat_natCast]
 exact Nat.and_two_pow_sub_one_eq_mod b 63
theorem a_abs8 (b : Nat) (hb : b < 18446744073709551616) (w : World) : Calls Tryz.prog 121 #[.float .f64 b] w fun e w' => e = .returned (.float .f64 (b % 9223372036854775808)) ∧ Below w.heap.size w w' := by
 have r1 := run_bits8 b
 have r2 := run_frombits8 (bits .andNot .u64 (b : Int) 9223372036854775808)
 rw [abs_bits8 hb] at r2
 go_enter Tryz.func121, Tryz.ntmps121
 go_wp2_with (fail)
 go_ret
 exact ⟨rfl, .refl _ _⟩
theorem a_nan8 (b : Nat) (w : World) : Calls Tryz.prog 118 #[.float .f64 b] w fun e w' => e = .returned (.bool (FloatKind.f64.format.order b b != some .eq)) ∧ Below w.heap.size w w' := by
 go_enter Tryz.func118, Tryz.ntmps118
 go_wp2_with (fail)
 go_ret
 exact ⟨rfl, .refl _ _⟩
theorem a_inf8 (b : Nat) (hb : b < 18446744073709551616) (w : World) : Calls Tryz.prog 119 #[.float .f64 b, .int .i64 0] w fun e w' => e = .returned (.bool (FloatKind.f64.format.order (b % 9223372036854775808) 9218868437227405311 == some .gt)) ∧ Below w.heap.size w w' := by
 have cA := a_abs8 b hb w
 go_enter Tryz.func119, Tryz.ntmps119
 go_wp2_with (fail)
 refine cA.mono ?_
 rintro e_ w1 ⟨rfl, hb1⟩
 go_wp2_with (fail)
 go_ret
 exact ⟨rfl, hb1⟩
theorem a_sign8 (b : Nat) (hb : b < 18446744073709551616) (w : World) : Calls Tryz.prog 120 #[.float .f64 b] w fun e w' => e = .returned (.bool (decide (9223372036854775808 ≤ b))) ∧ Below w.heap.size w w' := by
 have r1 := run_bits8 b
 have q0 : decide (wrap64 (b : Int) < 0) = decide (9223372036854775808 ≤ b) := by
  rw [decide_eq_decide]
  unfold wrap64
  omega
 go_enter Tryz.func120, Tryz.ntmps120
 go_wp2_with (fail)
 go_ret
 exact ⟨by rw [← q0]; rfl, .refl _ _⟩
def flD (n m : Nat) : Int :=
 if (FloatKind.f64.format.order n n != some .eq) = true then 84
 else if (FloatKind.f64.format.order (n % 9223372036854775808) 9218868437227405311 == some .gt) = true then 84
 else if (FloatKind.f64.format.order n 0 == some .eq) = true ∧ 9223372036854775808 ≤ n then 84
 else if (FloatKind.f64.format.order (n % 9223372036854775808) (floatOfInt .f64 (m : Int)) == some .gt) = true then 83 else 0
set_option maxRecDepth 100000 in
set_option maxHeartbeats 8000000 in
theorem a_flt8 (w : World) (n m : Nat) (hn : n < 18446744073709551616) : Calls Tryz.prog 93 #[.agg #[.float .f64 (floatOfInt .f64 (m : Int))], .int .u64 (n : Int)] w fun e w' => e = .returned (.int .i64 (flD n m)) ∧ Below w.heap.size w w' := by
 have r0 := hp1_0 w (.cells #[.float .f64 (floatOfInt .f64 (m : Int))] 183)
 have hb : Below w.heap.size w (w.alloc (.cells #[.float .f64 (floatOfInt .f64 (m : Int))] 183)) := (Below.refl _ _).alloc (Nat.le_refl _) _
 have r2 := run_frombits8 (n : Int)
 rw [Int.toNat_natCast] at r2
 have cN := a_nan8 n
 have cI := a_inf8 n hn
 have cS := a_sign8 n hn
 have cA := a_abs8 n hn
 obtain ⟨R, hR⟩ : ∃ R, flD n m = R := ⟨_, rfl⟩
 rw [hR]
 unfold flD at hR
 generalize floatOfInt .f64 (m : Int) = M at *
 generalize hx1 : (FloatKind.f64.format.order n n != some .eq) = x1 at *
 generalize hx2 : (FloatKind.f64.format.order (n % 9223372036854775808) 9218868437227405311 == some .gt) = x2 at *
 generalize hx3 : (FloatKind.f64.format.order n 0 == some .eq) = x3 at *
 generalize hx4 : (FloatKind.f64.format.order (n % 9223372036854775808) M == some .gt) = x4 at *
 generalize hx5 : decide (9223372036854775808 ≤ n) = x5 at *
 generalize n % 9223372036854775808 = N at *
 clear hx1 hx2
 go_enter Tryz.func93, Tryz.ntmps93
 go_upto_region 1 with (fail)
 generalize w.alloc (.cells #[.float .f64 M] 183) = w0 at *
 go_wp2_with (fail)
 refine (cN w0).mono ?_
 rintro e_ w1 ⟨rfl, hb1⟩
 replace r0 := keep hb1 r0
 replace hb := Below.after hb hb1
 clear hb1 cN
 cases x1
 ·go_wp2_with (fail)
  refine (cI w1).mono ?_
  rintro e_ w2 ⟨rfl, hb1⟩
  replace r0 := keep hb1 r0
  replace hb := Below.after hb hb1
  clear hb1 cI
  cases x2
  ·cases x3
   ·go_upto_region 6 with (fail)
    have hbd : Below w2.heap.size w2 w2.drew := below_drN (Below.refl _ _) 1
    have hS0 : (fun W_ : World => Bx W_ w.heap.size #[.float .f64 M]) w2.drew := ⟨_, keep hbd r0⟩
    replace hb := Below.after hb hbd
    refine wp_region_noPanic ?_
    refine wp_region_held (S := fun W_ : World => Bx W_ w.heap.size #[.float .f64 M]) (by kernel_rfl) ?_
    change wpAnyH _ _ _ _ _ _ _ _ (World.drew _)
    clear r0 hbd
    generalize w2.drew = y1 at *
    refine wpAnyH_take (i := 0) (v := ?va) rfl (by kernel_rfl) (by kernel_rfl) (by kernel_rfl) (fun _ _ _ h => h) (Or.inl ⟨by rfl, ?y1⟩) hS0 ?r1
    case y1 =>
     intro w_ hS_
     skip
     go_simp
     try with_reducible rfl
    simp only [Act.put, List.getElem_toArray, List.getElem_cons_zero, List.setIfInBounds_toArray, List.set_cons_succ, List.set_cons_zero]
    refine wpAnyH_take (i := 2) (v := ?vb) rfl (by kernel_rfl) (by kernel_rfl) (by kernel_rfl) (fun _ _ _ h => h) (Or.inl ⟨by rfl, ?y2⟩) hS0 ?r2
    case y2 =>
     intro w_ hS_
     skip
     go_simp
     try with_reducible rfl
    simp only [Act.put, List.getElem_toArray, List.getElem_cons_succ, List.getElem_cons_zero, List.setIfInBounds_toArray, List.set_cons_succ, List.set_cons_zero]
    refine wpAnyH_take (i := 3) (v := .float .f64 M) rfl (by kernel_rfl) (by kernel_rfl) (by kernel_rfl) (fun _ _ _ h => h) (Or.inl ⟨by rfl, ?y3⟩) hS0 ?r3
    case y3 =>
     intro w_ hS_
     obtain ⟨_, h_⟩ := hS_
     have c_ := cell_of_row _ _ 0 _ _ _ h_
     go_simp
     try with_reducible rfl
    simp only [Act.put, List.getElem_toArray, List.getElem_cons_succ, List.getElem_cons_zero, List.setIfInBounds_toArray, List.set_cons_succ, List.set_cons_zero]
    refine wpAnyH_one (k := 1) (fuel := 2) (by kernel_rfl) rfl (by kernel_rfl) (fun K_ hK => ?_)
    refine wp_call_ex (R := fun u w' => u = .float .f64 N ∧ Below y1.heap.size y1 w') (by kernel_rfl) ((cA y1).mono fun e w' h => ⟨_, h.1, rfl, h.2⟩) (fun u y2 hX_ => ?_)
    obtain ⟨rfl, hb2⟩ := hX_
    replace hS0 := hS0.keep hb2
    replace hb := Below.after hb hb2
    refine hK _ _ hS0 ?_
    simp only [Act.put, List.getElem_toArray, List.getElem_cons_succ, List.getElem_cons_zero, List.setIfInBounds_toArray, List.set_cons_succ, List.set_cons_zero]
    clear hK hb2 cA
    refine wpAnyH_take (i := 4) (v := .bool x4) rfl (by kernel_rfl) (by kernel_rfl) (by kernel_rfl) (fun _ _ _ h => h) (Or.inl ⟨by rfl, ?y4⟩) hS0 ?r4
    case y4 =>
     intro w_ hS_
     skip
     go_simp
     try with_reducible rfl
    simp only [Act.put, List.getElem_toArray, List.getElem_cons_succ, List.getElem_cons_zero, List.setIfInBounds_toArray, List.set_cons_succ, List.set_cons_zero]
    refine wpAnyH_take (i := 5) (v := .bool x4) rfl (by kernel_rfl) (by kernel_rfl) (by kernel_rfl) (fun _ _ _ h => h) (Or.inl ⟨by rfl, ?y5⟩) hS0 ?r5
    case y5 =>
     intro w_ hS_
     skip
     go_simp
     try with_reducible rfl
    simp only [Act.put, List.getElem_toArray, List.getElem_cons_succ, List.getElem_cons_zero, List.setIfInBounds_toArray, List.set_cons_succ, List.set_cons_zero]
    refine wpAnyH_done (by kernel_rfl) ?_ _
    refine NoPanic.normal ?_
    cases x4
    ·go_wp2
     go_ret
     exact ⟨by rw [← hR]; simp, hb⟩
    ·go_wp2
     go_ret
     exact ⟨by rw [← hR]; simp, hb⟩
   ·go_wp2_with (fail)
    refine (cS w2).mono ?_
    rintro e_ w3 ⟨rfl, hb1⟩
    replace r0 := keep hb1 r0
    replace hb := Below.after hb hb1
    clear hb1 cS
    cases x5
    ·have hlt : ¬ 9223372036854775808 ≤ n := by simpa using hx5
     go_upto_region 6 with (fail)
     have hbd : Below w3.heap.size w3 w3.drew := below_drN (Below.refl _ _) 1
     have hS0 : (fun W_ : World => Bx W_ w.heap.size #[.float .f64 M]) w3.drew := ⟨_, keep hbd r0⟩
     replace hb := Below.after hb hbd
     refine wp_region_noPanic ?_
     refine wp_region_held (S := fun W_ : World => Bx W_ w.heap.size #[.float .f64 M]) (by kernel_rfl) ?_
     change wpAnyH _ _ _ _ _ _ _ _ (World.drew _)
     clear r0 hbd
     generalize w3.drew = y1 at *
     refine wpAnyH_take (i := 0) (v := ?va) rfl (by kernel_rfl) (by kernel_rfl) (by kernel_rfl) (fun _ _ _ h => h) (Or.inl ⟨by rfl, ?y6⟩) hS0 ?r6
     case y6 =>
      intro w_ hS_
      skip
      go_simp
      try with_reducible rfl
     simp only [Act.put, List.getElem_toArray, List.getElem_cons_zero, List.setIfInBounds_toArray, List.set_cons_succ, List.set_cons_zero]
     refine wpAnyH_take (i := 2) (v := ?vb) rfl (by kernel_rfl) (by kernel_rfl) (by kernel_rfl) (fun _ _ _ h => h) (Or.inl ⟨by rfl, ?y7⟩) hS0 ?r7
     case y7 =>
      intro w_ hS_
      skip
      go_simp
      try with_reducible rfl
     simp only [Act.put, List.getElem_toArray, List.getElem_cons_succ, List.getElem_cons_zero, List.setIfInBounds_toArray, List.set_cons_succ, List.set_cons_zero]
     refine wpAnyH_take (i := 3) (v := .float .f64 M) rfl (by kernel_rfl) (by kernel_rfl) (by kernel_rfl) (fun _ _ _ h => h) (Or.inl ⟨by rfl, ?y8⟩) hS0 ?r8
     case y8 =>
      intro w_ hS_
      obtain ⟨_, h_⟩ := hS_
      have c_ := cell_of_row _ _ 0 _ _ _ h_
      go_simp
      try with_reducible rfl
     simp only [Act.put, List.getElem_toArray, List.getElem_cons_succ, List.getElem_cons_zero, List.setIfInBounds_toArray, List.set_cons_succ, List.set_cons_zero]
     refine wpAnyH_one (k := 1) (fuel := 2) (by kernel_rfl) rfl (by kernel_rfl) (fun K_ hK => ?_)
     refine wp_call_ex (R := fun u w' => u = .float .f64 N ∧ Below y1.heap.size y1 w') (by kernel_rfl) ((cA y1).mono fun e w' h => ⟨_, h.1, rfl, h.2⟩) (fun u y2 hX_ => ?_)
     obtain ⟨rfl, hb2⟩ := hX_
     replace hS0 := hS0.keep hb2
     replace hb := Below.after hb hb2
     refine hK _ _ hS0 ?_
     simp only [Act.put, List.getElem_toArray, List.getElem_cons_succ, List.getElem_cons_zero, List.setIfInBounds_toArray, List.set_cons_succ, List.set_cons_zero]
     clear hK hb2 cA
     refine wpAnyH_take (i := 4) (v := .bool x4) rfl (by kernel_rfl) (by kernel_rfl) (by kernel_rfl) (fun _ _ _ h => h) (Or.inl ⟨by rfl, ?y9⟩) hS0 ?r9
     case y9 =>
      intro w_ hS_
      skip
      go_simp
      try with_reducible rfl
     simp only [Act.put, List.getElem_toArray, List.getElem_cons_succ, List.getElem_cons_zero, List.setIfInBounds_toArray, List.set_cons_succ, List.set_cons_zero]
     refine wpAnyH_take (i := 5) (v := .bool x4) rfl (by kernel_rfl) (by kernel_rfl) (by kernel_rfl) (fun _ _ _ h => h) (Or.inl ⟨by rfl, ?y10⟩) hS0 ?r10
     case y10 =>
      intro w_ hS_
      skip
      go_simp
      try with_reducible rfl
     simp only [Act.put, List.getElem_toArray, List.getElem_cons_succ, List.getElem_cons_zero, List.setIfInBounds_toArray, List.set_cons_succ, List.set_cons_zero]
     refine wpAnyH_done (by kernel_rfl) ?_ _
     refine NoPanic.normal ?_
     cases x4
     ·go_wp2
      go_ret
      exact ⟨by rw [← hR]; simp [hlt], hb⟩
     ·go_wp2
      go_ret
      exact ⟨by rw [← hR]; simp [hlt], hb⟩
    ·have hle : 9223372036854775808 ≤ n := by simpa using hx5
     go_wp2
     go_ret
     exact ⟨by rw [← hR]; simp [hle], hb⟩
  ·go_wp2
   go_ret
   exact ⟨by rw [← hR]; rfl, hb⟩
 ·go_wp2
  go_ret
  exact ⟨by rw [← hR]; rfl, hb⟩
end Go.Proofs.YtejcggjmbjmoeaaGreatDoor
namespace Go.Proofs.YtejcggjmbjmoeaaGreatDoor
set_option maxRecDepth 100000
open Go Go.RowKit Go.Sort
/-! What decode reads, encode writes again. -/
section
variable (utf : List B → Bool) (flE : Nat → Nat → Int)
end
end Go.Proofs.YtejcggjmbjmoeaaGreatDoor
namespace Go.Proofs.YtejcggjmbjmoeaaGreatDoor
set_option maxRecDepth 100000
open Go Go.RowKit Go.Sort
/-! What encode writes, decode reads again, within the schema's range. -/
inductive NmT : VT → Prop
 | mk (n : Nat) (d : List B) (ps : List VT) (hn : n < 18446744073709551616) (hd : d.length ≤ 140737488351232) (h : ∀ p ∈ ps, NmT p) : NmT (.mk n d ps)
theorem VtM.nm {W : World} {S : Nat → Prop} {x : VR} {X : VT} (h : VtM W S x X) : NmT X := by
 induction h with
 | mk x bs xs ps hn hdl hbl hd hdc hds hpl hxl hpc hpm hps hP hs ih =>
  refine .mk _ _ _ hn hbl (fun p hp => ?_)
  obtain ⟨i, hi, e⟩ := List.getElem_of_mem hp
  have := ih i hi
  rw [gvt, List.getD_eq_getElem?_getD, List.getElem?_eq_getElem hi] at this
  rw [← e]
  exact this
section
variable (utf : List B → Bool) (flE : Nat → Nat → Int)
end
end Go.Proofs.YtejcggjmbjmoeaaGreatDoor

