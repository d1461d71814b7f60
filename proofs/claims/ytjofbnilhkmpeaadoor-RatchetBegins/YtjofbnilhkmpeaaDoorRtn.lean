import Derived.Test.YtjofbnilhkmpeaaDoorProg
import Derived.WalkKit
import Derived.WalkSpells
import Derived.WalkLawsBesides
import Derived.Lib.QuietBelow
import Derived.BigQuiet
import Derived.OrdersHeld
import Derived.Deep.RegionHeld3
import Derived.OwnWalk
import Derived.Deep.CutRange
import Derived.Test.YtjofbnilhkmpeaaDoorKa
import Derived.Test.YtjofbnilhkmpeaaDoorRtm
namespace Go.Proofs.YtjofbnilhkmpeaaDoor
set_option maxRecDepth 100000
open Go Go.RowKit Go.Sort Go.ChangeMaps Go.MapKept
attribute [local go_sem] setCell_drewN alloc_drewN

structure Bgn where
  sh : List Int
  hA : List Int
  hB : List Int
  opr : List Int
  opu : List Int
  pe : List Int
  av : Int
  ak : Int
  ac : Int
  bv : Int
  bk : Int
  bc : Int
structure Bgn.ok (b : Bgn) : Prop where
  sh : b.sh.length = 32
  hA : b.hA.length = 32
  hB : b.hB.length = 32
  opr : b.opr.length = 32
  opu : b.opu.length = 32
  pe : b.pe.length = 32
  ha : K8 b.opr
def bgl (b : Bgn) : List Value := k8 b.sh ++ (k8 b.hA ++ (k8 b.hB ++ (k8 b.opr ++ (k8 b.opu ++ (k8 b.pe ++ ([.int .i64 b.av, .int .i64 b.ak, .int .i64 b.ac] ++ ([.int .i64 b.bv, .int .i64 b.bk, .int .i64 b.bc] ++ [])))))))
def bgrow (b : Bgn) : Array Value := (bgl b).toArray
def zbg : Bgn := ⟨zr 32, zr 32, zr 32, zr 32, zr 32, zr 32, 0, 0, 0, 0, 0, 0⟩
theorem bBg (cs : Array Value) (W : World) : (Instr.box 29 (.agg cs)).run Tryd.prog W = .ok (.pointer (some ⟨W.heap.size, 0, none⟩)) (W.alloc (.cells cs 29)) := by kernel_rfl
theorem bWd (cs : Array Value) (W : World) : (Instr.box 42 (.agg cs)).run Tryd.prog W = .ok (.pointer (some ⟨W.heap.size, 0, none⟩)) (W.alloc (.cells cs 42)) := by kernel_rfl
theorem bg_sh {b : Bgn} (h : b.ok) : (bgrow b).extract 0 (0 + (irow .u8 b.sh).size) = irow .u8 b.sh := by
  have e : bgl b = ([]) ++ (k8 b.sh ++ (k8 b.hA ++ (k8 b.hB ++ (k8 b.opr ++ (k8 b.opu ++ (k8 b.pe ++ ([.int .i64 b.av, .int .i64 b.ak, .int .i64 b.ac] ++ ([.int .i64 b.bv, .int .i64 b.bk, .int .i64 b.bc] ++ ([]))))))))) := rfl
  rw [bgrow, e, irow_size, h.sh]
  exact extr _ _ _ 0 32 (rfl) (by rw [k8_len, h.sh])
theorem bg_hA {b : Bgn} (h : b.ok) : (bgrow b).extract 32 (32 + (irow .u8 b.hA).size) = irow .u8 b.hA := by
  have e : bgl b = (k8 b.sh) ++ (k8 b.hA ++ (k8 b.hB ++ (k8 b.opr ++ (k8 b.opu ++ (k8 b.pe ++ ([.int .i64 b.av, .int .i64 b.ak, .int .i64 b.ac] ++ ([.int .i64 b.bv, .int .i64 b.bk, .int .i64 b.bc] ++ ([])))))))) := rfl
  rw [bgrow, e, irow_size, h.hA]
  exact extr _ _ _ 32 32 (by rw [k8_len, h.sh]) (by rw [k8_len, h.hA])
theorem bg_hB {b : Bgn} (h : b.ok) : (bgrow b).extract 64 (64 + (irow .u8 b.hB).size) = irow .u8 b.hB := by
  have e : bgl b = (k8 b.sh ++ (k8 b.hA)) ++ (k8 b.hB ++ (k8 b.opr ++ (k8 b.opu ++ (k8 b.pe ++ ([.int .i64 b.av, .int .i64 b.ak, .int .i64 b.ac] ++ ([.int .i64 b.bv, .int .i64 b.bk, .int .i64 b.bc] ++ ([]))))))) := by simp only [bgl, List.append_assoc]
  rw [bgrow, e, irow_size, h.hB]
  exact extr _ _ _ 64 32 (by simp only [List.length_append, k8_len, h.sh, h.hA]) (by rw [k8_len, h.hB])
theorem bg_pe {b : Bgn} (h : b.ok) : (bgrow b).extract 160 (160 + (irow .u8 b.pe).size) = irow .u8 b.pe := by
  have e : bgl b = (k8 b.sh ++ (k8 b.hA ++ (k8 b.hB ++ (k8 b.opr ++ (k8 b.opu))))) ++ (k8 b.pe ++ ([.int .i64 b.av, .int .i64 b.ak, .int .i64 b.ac] ++ ([.int .i64 b.bv, .int .i64 b.bk, .int .i64 b.bc] ++ ([])))) := by simp only [bgl, List.append_assoc]
  rw [bgrow, e, irow_size, h.pe]
  exact extr _ _ _ 160 32 (by simp only [List.length_append, k8_len, h.sh, h.hA, h.hB, h.opr, h.opu]) (by rw [k8_len, h.pe])
theorem bg_own {b : Bgn} (h : b.ok) : (bgrow b).extract 96 (96 + (prow b.opr b.opu).size) = prow b.opr b.opu := by
  have e : bgl b = (k8 b.sh ++ (k8 b.hA ++ (k8 b.hB))) ++ ((k8 b.opr ++ (k8 b.opu ++ [])) ++ (k8 b.pe ++ ([.int .i64 b.av, .int .i64 b.ak, .int .i64 b.ac] ++ ([.int .i64 b.bv, .int .i64 b.bk, .int .i64 b.bc] ++ ([]))))) := by simp only [bgl, List.append_assoc, List.append_nil]
  rw [bgrow, e, prow_size h.opr h.opu]
  exact extr _ _ _ 96 64 (by simp only [List.length_append, k8_len, h.sh, h.hA, h.hB]) (by simp only [List.length_append, List.length_nil, k8_len, h.opr, h.opu])
theorem bg_cA {b : Bgn} (h : b.ok) : (bgrow b).extract 192 (192 + (cfrow b.av b.ak b.ac).size) = cfrow b.av b.ak b.ac := by
  have e : bgl b = (k8 b.sh ++ (k8 b.hA ++ (k8 b.hB ++ (k8 b.opr ++ (k8 b.opu ++ (k8 b.pe)))))) ++ ([.int .i64 b.av, .int .i64 b.ak, .int .i64 b.ac] ++ ([.int .i64 b.bv, .int .i64 b.bk, .int .i64 b.bc] ++ ([]))) := by simp only [bgl, List.append_assoc]
  rw [bgrow, e]
  exact extr _ _ _ 192 3 (by simp only [List.length_append, k8_len, h.sh, h.hA, h.hB, h.opr, h.opu, h.pe]) rfl
theorem bg_cB {b : Bgn} (h : b.ok) : (bgrow b).extract 195 (195 + (cfrow b.bv b.bk b.bc).size) = cfrow b.bv b.bk b.bc := by
  have e : bgl b = (k8 b.sh ++ (k8 b.hA ++ (k8 b.hB ++ (k8 b.opr ++ (k8 b.opu ++ (k8 b.pe ++ ([.int .i64 b.av, .int .i64 b.ak, .int .i64 b.ac]))))))) ++ ([.int .i64 b.bv, .int .i64 b.bk, .int .i64 b.bc] ++ ([])) := by simp only [bgl, List.append_assoc]
  rw [bgrow, e]
  exact extr _ _ _ 195 3 (by simp only [List.length_append, k8_len, List.length_cons, List.length_nil, h.sh, h.hA, h.hB, h.opr, h.opu, h.pe]) rfl
/-- The world's cells. -/
def wdl (p q : Value) (s t : Stt) (n : Value) (bad : Bool) : List Value := [p, q] ++ ((stlx s [] ++ (stlx t [] ++ [])) ++ [n, .bool bad])
def wdrow (p q : Value) (s t : Stt) (n : Value) (bad : Bool) : Array Value := (wdl p q s t n bad).toArray
theorem ovw_app : ∀ (vs A B C : List Value), B.length = vs.length → ovw (A ++ (B ++ C)).toArray A.length vs = (A ++ (vs ++ C)).toArray
  | [], A, B, C, h => by
    have : B = [] := List.length_eq_zero_iff.1 h
    subst this
    rfl
  | v :: r, A, [], C, h => by cases h
  | v :: r, A, b :: B, C, h => by
    have e : (A ++ (b :: B ++ C)).toArray.setIfInBounds A.length v = ((A ++ [v]) ++ (B ++ C)).toArray := by
      rw [List.setIfInBounds_toArray, List.set_append_right _ _ (Nat.le_refl _), Nat.sub_self]
      simp
    have e2 : A.length + 1 = (A ++ [v]).length := by simp
    rw [ovw, e, e2, ovw_app r (A ++ [v]) B C (by simpa using h)]
    simp
theorem wd_pq (p q p' q' : Value) (s t : Stt) (n : Value) (bad : Bool) : ovw (wdrow p q s t n bad) 0 [p', q'] = wdrow p' q' s t n bad := ovw_app [p', q'] [] [p, q] _ rfl
def st2 (s t : Stt) : Array Value := (stlx s [] ++ (stlx t [] ++ [])).toArray
theorem st2_size {s t : Stt} (hs : s.ok) (ht : t.ok) : (st2 s t).size = 664 := by
  rw [st2, List.size_toArray, List.length_append, List.length_append, stlx_len hs, stlx_len ht]; rfl
theorem st2_one {s t : Stt} (hs : s.ok) (ht : t.ok) : (st2 s t).all (·.oneCell') = true := by
  rw [st2, List.all_toArray, List.all_eq_true]
  intro u hu
  rw [List.append_nil, List.mem_append] at hu
  rcases hu with hu | hu
  · exact stlx_one hs (by simp) u hu
  · exact stlx_one ht (by simp) u hu
theorem wd_st (p q : Value) (s t s' t' : Stt) (n : Value) (bad : Bool) (hs : s.ok) (ht : t.ok) (hs' : s'.ok) (ht' : t'.ok) : ovw (wdrow p q s t n bad) 2 (st2 s' t').toList = wdrow p q s' t' n bad :=
  ovw_app (stlx s' [] ++ (stlx t' [] ++ [])) [p, q] (stlx s [] ++ (stlx t [] ++ [])) [n, .bool bad] (by simp only [List.length_append, stlx_len hs, stlx_len ht, stlx_len hs', stlx_len ht'])
theorem wdrow_size {p q : Value} {s t : Stt} {n : Value} {bad : Bool} (hs : s.ok) (ht : t.ok) : (wdrow p q s t n bad).size = 668 := by
  simp only [wdrow, wdl, List.size_toArray, List.length_append, stlx_len hs, stlx_len ht, List.length_cons, List.length_nil]
theorem wd_bad {p q : Value} {s t : Stt} {n : Value} {bad bad' : Bool} (hs : s.ok) (ht : t.ok) : (wdrow p q s t n bad).setIfInBounds 667 (.bool bad') = wdrow p q s t n bad' := by
  have e : ∀ x, wdl p q s t n x = ([p, q] ++ ((stlx s [] ++ (stlx t [] ++ [])) ++ [n])) ++ ([.bool x] ++ []) := fun x => by simp [wdl]
  have hl : ([p, q] ++ ((stlx s [] ++ (stlx t [] ++ [])) ++ [n])).length = 667 := by simp only [List.length_append, stlx_len hs, stlx_len ht, List.length_cons, List.length_nil]
  have h := ovw_app [.bool bad'] ([p, q] ++ ((stlx s [] ++ (stlx t [] ++ [])) ++ [n])) [.bool bad] [] rfl
  rw [hl, ← e, ← e] at h
  exact h
theorem wd_p {p q : Value} {s t : Stt} {n : Value} {bad : Bool} : (wdrow p q s t n bad)[0]? = some p := rfl
theorem wd_q {p q : Value} {s t : Stt} {n : Value} {bad : Bool} : (wdrow p q s t n bad)[1]? = some q := rfl
theorem wd_s {p q : Value} {s t : Stt} {n : Value} {bad : Bool} (hs : s.ok) : (wdrow p q s t n bad).extract 2 (2 + (strow s).size) = strow s := by
  have e : wdl p q s t n bad = [p, q] ++ (stlx s [] ++ ((stlx t [] ++ []) ++ [n, .bool bad])) := by simp only [wdl, List.append_assoc]
  rw [wdrow, e, strow_size hs]
  exact extr _ _ _ 2 332 rfl (by rw [stlx_len hs]; rfl)
theorem wd_t {p q : Value} {s t : Stt} {n : Value} {bad : Bool} (hs : s.ok) (ht : t.ok) : (wdrow p q s t n bad).extract 334 (334 + (strow t).size) = strow t := by
  have e : wdl p q s t n bad = ([p, q] ++ stlx s []) ++ (stlx t [] ++ ([] ++ [n, .bool bad])) := by simp only [wdl, List.append_assoc]
  rw [wdrow, e, strow_size ht]
  exact extr _ _ _ 334 332 (by rw [List.length_append, stlx_len hs]; rfl) (by rw [stlx_len ht]; rfl)
theorem builtW0 : Tryd.prog.built 42 [] = some (wdrow (.pointer none) (.pointer none) zst zst (.slice none 0 0) false) := by kernel_rfl
theorem builtP2 (x y : Option Addr) : Tryd.prog.built 34 [(0, .pointer x), (1, .pointer y)] = some #[.pointer x, .pointer y] := by kernel_rfl
theorem infoP2 (x y : Option Addr) : (Tryd.prog.info? 34).map (·.size) = some (#[.pointer x, .pointer y] : Array Value).size := by kernel_rfl
theorem infoS2 {s t : Stt} (hs : s.ok) (ht : t.ok) : (Tryd.prog.info? 39).map (·.size) = some (st2 s t).size := by rw [st2_size hs ht]; kernel_rfl
theorem infoB1 : (Tryd.prog.info? 4).map (·.size) = some 1 := by kernel_rfl
theorem builtS2 {s t : Stt} (hs : s.ok) (ht : t.ok) : Tryd.prog.built 39 [(0, .agg (strow s)), (1, .agg (strow t))] = some (st2 s t) := by
  obtain ⟨cvs, cks, css, roots, oprs, opus, peers, hos, hps, tus, snds, shds, nsds, sns, pvs, hss, rcvs, rhds, nrvs, rns, hrs, sps⟩ := s
  obtain ⟨lroots, loprs, lopus, lpeers, lsnds, lshds, lnsds, lrcvs, lrhds, lnrvs, _⟩ := hs
  dsimp only at lroots loprs lopus lpeers lsnds lshds lnsds lrcvs lrhds lnrvs
  obtain ⟨roots0, roots1, roots2, roots3, roots4, roots5, roots6, roots7, roots8, roots9, roots10, roots11, roots12, roots13, roots14, roots15, roots16, roots17, roots18, roots19, roots20, roots21, roots22, roots23, roots24, roots25, roots26, roots27, roots28, roots29, roots30, roots31, rfl⟩ := len32 roots lroots
  obtain ⟨oprs0, oprs1, oprs2, oprs3, oprs4, oprs5, oprs6, oprs7, oprs8, oprs9, oprs10, oprs11, oprs12, oprs13, oprs14, oprs15, oprs16, oprs17, oprs18, oprs19, oprs20, oprs21, oprs22, oprs23, oprs24, oprs25, oprs26, oprs27, oprs28, oprs29, oprs30, oprs31, rfl⟩ := len32 oprs loprs
  obtain ⟨opus0, opus1, opus2, opus3, opus4, opus5, opus6, opus7, opus8, opus9, opus10, opus11, opus12, opus13, opus14, opus15, opus16, opus17, opus18, opus19, opus20, opus21, opus22, opus23, opus24, opus25, opus26, opus27, opus28, opus29, opus30, opus31, rfl⟩ := len32 opus lopus
  obtain ⟨peers0, peers1, peers2, peers3, peers4, peers5, peers6, peers7, peers8, peers9, peers10, peers11, peers12, peers13, peers14, peers15, peers16, peers17, peers18, peers19, peers20, peers21, peers22, peers23, peers24, peers25, peers26, peers27, peers28, peers29, peers30, peers31, rfl⟩ := len32 peers lpeers
  obtain ⟨snds0, snds1, snds2, snds3, snds4, snds5, snds6, snds7, snds8, snds9, snds10, snds11, snds12, snds13, snds14, snds15, snds16, snds17, snds18, snds19, snds20, snds21, snds22, snds23, snds24, snds25, snds26, snds27, snds28, snds29, snds30, snds31, rfl⟩ := len32 snds lsnds
  obtain ⟨shds0, shds1, shds2, shds3, shds4, shds5, shds6, shds7, shds8, shds9, shds10, shds11, shds12, shds13, shds14, shds15, shds16, shds17, shds18, shds19, shds20, shds21, shds22, shds23, shds24, shds25, shds26, shds27, shds28, shds29, shds30, shds31, rfl⟩ := len32 shds lshds
  obtain ⟨nsds0, nsds1, nsds2, nsds3, nsds4, nsds5, nsds6, nsds7, nsds8, nsds9, nsds10, nsds11, nsds12, nsds13, nsds14, nsds15, nsds16, nsds17, nsds18, nsds19, nsds20, nsds21, nsds22, nsds23, nsds24, nsds25, nsds26, nsds27, nsds28, nsds29, nsds30, nsds31, rfl⟩ := len32 nsds lnsds
  obtain ⟨rcvs0, rcvs1, rcvs2, rcvs3, rcvs4, rcvs5, rcvs6, rcvs7, rcvs8, rcvs9, rcvs10, rcvs11, rcvs12, rcvs13, rcvs14, rcvs15, rcvs16, rcvs17, rcvs18, rcvs19, rcvs20, rcvs21, rcvs22, rcvs23, rcvs24, rcvs25, rcvs26, rcvs27, rcvs28, rcvs29, rcvs30, rcvs31, rfl⟩ := len32 rcvs lrcvs
  obtain ⟨rhds0, rhds1, rhds2, rhds3, rhds4, rhds5, rhds6, rhds7, rhds8, rhds9, rhds10, rhds11, rhds12, rhds13, rhds14, rhds15, rhds16, rhds17, rhds18, rhds19, rhds20, rhds21, rhds22, rhds23, rhds24, rhds25, rhds26, rhds27, rhds28, rhds29, rhds30, rhds31, rfl⟩ := len32 rhds lrhds
  obtain ⟨nrvs0, nrvs1, nrvs2, nrvs3, nrvs4, nrvs5, nrvs6, nrvs7, nrvs8, nrvs9, nrvs10, nrvs11, nrvs12, nrvs13, nrvs14, nrvs15, nrvs16, nrvs17, nrvs18, nrvs19, nrvs20, nrvs21, nrvs22, nrvs23, nrvs24, nrvs25, nrvs26, nrvs27, nrvs28, nrvs29, nrvs30, nrvs31, rfl⟩ := len32 nrvs lnrvs
  obtain ⟨cvt, ckt, cst, roott, oprt, oput, peert, hot, hpt, tut, sndt, shdt, nsdt, snt, pvt, hst, rcvt, rhdt, nrvt, rnt, hrt, spt⟩ := t
  obtain ⟨lroott, loprt, loput, lpeert, lsndt, lshdt, lnsdt, lrcvt, lrhdt, lnrvt, _⟩ := ht
  dsimp only at lroott loprt loput lpeert lsndt lshdt lnsdt lrcvt lrhdt lnrvt
  obtain ⟨roott0, roott1, roott2, roott3, roott4, roott5, roott6, roott7, roott8, roott9, roott10, roott11, roott12, roott13, roott14, roott15, roott16, roott17, roott18, roott19, roott20, roott21, roott22, roott23, roott24, roott25, roott26, roott27, roott28, roott29, roott30, roott31, rfl⟩ := len32 roott lroott
  obtain ⟨oprt0, oprt1, oprt2, oprt3, oprt4, oprt5, oprt6, oprt7, oprt8, oprt9, oprt10, oprt11, oprt12, oprt13, oprt14, oprt15, oprt16, oprt17, oprt18, oprt19, oprt20, oprt21, oprt22, oprt23, oprt24, oprt25, oprt26, oprt27, oprt28, oprt29, oprt30, oprt31, rfl⟩ := len32 oprt loprt
  obtain ⟨oput0, oput1, oput2, oput3, oput4, oput5, oput6, oput7, oput8, oput9, oput10, oput11, oput12, oput13, oput14, oput15, oput16, oput17, oput18, oput19, oput20, oput21, oput22, oput23, oput24, oput25, oput26, oput27, oput28, oput29, oput30, oput31, rfl⟩ := len32 oput loput
  obtain ⟨peert0, peert1, peert2, peert3, peert4, peert5, peert6, peert7, peert8, peert9, peert10, peert11, peert12, peert13, peert14, peert15, peert16, peert17, peert18, peert19, peert20, peert21, peert22, peert23, peert24, peert25, peert26, peert27, peert28, peert29, peert30, peert31, rfl⟩ := len32 peert lpeert
  obtain ⟨sndt0, sndt1, sndt2, sndt3, sndt4, sndt5, sndt6, sndt7, sndt8, sndt9, sndt10, sndt11, sndt12, sndt13, sndt14, sndt15, sndt16, sndt17, sndt18, sndt19, sndt20, sndt21, sndt22, sndt23, sndt24, sndt25, sndt26, sndt27, sndt28, sndt29, sndt30, sndt31, rfl⟩ := len32 sndt lsndt
  obtain ⟨shdt0, shdt1, shdt2, shdt3, shdt4, shdt5, shdt6, shdt7, shdt8, shdt9, shdt10, shdt11, shdt12, shdt13, shdt14, shdt15, shdt16, shdt17, shdt18, shdt19, shdt20, shdt21, shdt22, shdt23, shdt24, shdt25, shdt26, shdt27, shdt28, shdt29, shdt30, shdt31, rfl⟩ := len32 shdt lshdt
  obtain ⟨nsdt0, nsdt1, nsdt2, nsdt3, nsdt4, nsdt5, nsdt6, nsdt7, nsdt8, nsdt9, nsdt10, nsdt11, nsdt12, nsdt13, nsdt14, nsdt15, nsdt16, nsdt17, nsdt18, nsdt19, nsdt20, nsdt21, nsdt22, nsdt23, nsdt24, nsdt25, nsdt26, nsdt27, nsdt28, nsdt29, nsdt30, nsdt31, rfl⟩ := len32 nsdt lnsdt
  obtain ⟨rcvt0, rcvt1, rcvt2, rcvt3, rcvt4, rcvt5, rcvt6, rcvt7, rcvt8, rcvt9, rcvt10, rcvt11, rcvt12, rcvt13, rcvt14, rcvt15, rcvt16, rcvt17, rcvt18, rcvt19, rcvt20, rcvt21, rcvt22, rcvt23, rcvt24, rcvt25, rcvt26, rcvt27, rcvt28, rcvt29, rcvt30, rcvt31, rfl⟩ := len32 rcvt lrcvt
  obtain ⟨rhdt0, rhdt1, rhdt2, rhdt3, rhdt4, rhdt5, rhdt6, rhdt7, rhdt8, rhdt9, rhdt10, rhdt11, rhdt12, rhdt13, rhdt14, rhdt15, rhdt16, rhdt17, rhdt18, rhdt19, rhdt20, rhdt21, rhdt22, rhdt23, rhdt24, rhdt25, rhdt26, rhdt27, rhdt28, rhdt29, rhdt30, rhdt31, rfl⟩ := len32 rhdt lrhdt
  obtain ⟨nrvt0, nrvt1, nrvt2, nrvt3, nrvt4, nrvt5, nrvt6, nrvt7, nrvt8, nrvt9, nrvt10, nrvt11, nrvt12, nrvt13, nrvt14, nrvt15, nrvt16, nrvt17, nrvt18, nrvt19, nrvt20, nrvt21, nrvt22, nrvt23, nrvt24, nrvt25, nrvt26, nrvt27, nrvt28, nrvt29, nrvt30, nrvt31, rfl⟩ := len32 nrvt lnrvt
  kernel_rfl

end Go.Proofs.YtjofbnilhkmpeaaDoor
