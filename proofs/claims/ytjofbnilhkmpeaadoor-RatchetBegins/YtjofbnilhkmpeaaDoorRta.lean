import Derived.Test.YtjofbnilhkmpeaaDoorProg
import Derived.WalkKit
import Derived.WalkSpells
import Derived.WalkLawsBesides
import Derived.Lib.QuietBelow
import Derived.BigQuiet
import Derived.OrdersHeld
import Derived.Deep.RegionHeld3
import Derived.OwnWalk
import Derived.Test.YtjofbnilhkmpeaaDoorKa
import Derived.Test.YtjofbnilhkmpeaaDoorSph
namespace Go.Proofs.YtjofbnilhkmpeaaDoor
set_option maxRecDepth 100000
open Go Go.RowKit Go.Sort Go.ChangeMaps Go.MapKept
attribute [local go_sem] setCell_drewN alloc_drewN

/-! A state's cells. -/
structure Stt where
  cv : Int
  ck : Int
  cs : Int
  root : List Int
  opr : List Int
  opu : List Int
  peer : List Int
  ho : Bool
  hp : Bool
  tu : Bool
  snd : List Int
  shd : List Int
  nsd : List Int
  sn : Int
  pv : Int
  hs : Bool
  rcv : List Int
  rhd : List Int
  nrv : List Int
  rn : Int
  hr : Bool
  sp : Value
structure Stt.ok (s : Stt) : Prop where
  root : s.root.length = 32
  opr : s.opr.length = 32
  opu : s.opu.length = 32
  peer : s.peer.length = 32
  snd : s.snd.length = 32
  shd : s.shd.length = 32
  nsd : s.nsd.length = 32
  rcv : s.rcv.length = 32
  rhd : s.rhd.length = 32
  nrv : s.nrv.length = 32
  spc : s.sp.oneCell' = true
def k8 (l : List Int) : List Value := l.map (Value.int .u8)
theorem k8_len (l : List Int) : (k8 l).length = l.length := by simp [k8]
theorem k8_irow (l : List Int) : (k8 l).toArray = irow .u8 l := rfl
def stlx (s : Stt) (R : List Value) : List Value := [.int .i64 s.cv, .int .i64 s.ck, .int .i64 s.cs] ++ (k8 s.root ++ (k8 s.opr ++ (k8 s.opu ++ (k8 s.peer ++ ([.bool s.ho, .bool s.hp, .bool s.tu] ++ (k8 s.snd ++ (k8 s.shd ++ (k8 s.nsd ++ ([.int .u32 s.sn, .int .u32 s.pv, .bool s.hs] ++ (k8 s.rcv ++ (k8 s.rhd ++ (k8 s.nrv ++ ([.int .u32 s.rn, .bool s.hr, s.sp] ++ (R))))))))))))))
def strow (s : Stt) : Array Value := (stlx s []).toArray
def sdrow (s : Stt) (most : Int) (v : Value) (b : Option Nat) : Array Value := (stlx s [.int .i64 most, v, .map b]).toArray
theorem extr (A B C : List Value) (n m : Nat) (hn : A.length = n) (hm : B.length = m) : ((A ++ (B ++ C)).toArray).extract n (n + m) = B.toArray := by
  subst hn hm
  apply Array.ext'
  simp only [Array.toList_extract, List.extract_eq_take_drop, List.drop_left]
  simp
theorem getx (A B C : List Value) (n j : Nat) (hn : A.length = n) (hj : j < B.length) : ((A ++ (B ++ C)).toArray)[n + j]? = B[j]? := by
  subst hn
  rw [List.getElem?_toArray, List.getElem?_append_right (by omega), Nat.add_sub_cancel_left, List.getElem?_append_left hj]
theorem stlx_len {s : Stt} (h : s.ok) (R : List Value) : (stlx s R).length = 332 + R.length := by
  simp only [stlx, List.length_append, k8_len, h.root, h.opr, h.opu, h.peer, h.snd, h.shd, h.nsd, h.rcv, h.rhd, h.nrv, List.length_cons, List.length_nil]
  omega
theorem strow_size {s : Stt} (h : s.ok) : (strow s).size = 332 := by rw [strow, List.size_toArray, stlx_len h]; rfl
theorem sdrow_size {s : Stt} (h : s.ok) (most : Int) (v : Value) (b : Option Nat) : (sdrow s most v b).size = 335 := by rw [sdrow, List.size_toArray, stlx_len h]; rfl
theorem k8_one (l : List Int) : ∀ u ∈ k8 l, u.oneCell' = true := by
  intro u hu
  obtain ⟨z, _, rfl⟩ := List.mem_map.1 hu
  rfl
theorem stlx_one {s : Stt} (h : s.ok) {R : List Value} (hR : ∀ u ∈ R, u.oneCell' = true) : ∀ u ∈ stlx s R, u.oneCell' = true := by
  intro u hu
  simp only [stlx, List.mem_append, List.mem_cons, List.not_mem_nil, or_false] at hu
  rcases hu with (rfl | rfl | rfl) | hu | hu | hu | hu | (rfl | rfl | rfl) | hu | hu | hu | (rfl | rfl | rfl) | hu | hu | hu | (rfl | rfl | rfl) | hu
  all_goals first | rfl | exact k8_one _ _ hu | exact h.spc | exact hR _ hu
theorem strow_one {s : Stt} (h : s.ok) : (strow s).all (·.oneCell') = true := by
  rw [strow, List.all_toArray, List.all_eq_true]
  exact stlx_one h (by simp)
theorem sdrow_one {s : Stt} (h : s.ok) (most : Int) (v : Value) (hv : v.oneCell' = true) (b : Option Nat) : (sdrow s most v b).all (·.oneCell') = true := by
  rw [sdrow, List.all_toArray, List.all_eq_true]
  refine stlx_one h ?_
  intro u hu
  simp only [List.mem_cons, List.not_mem_nil, or_false] at hu
  rcases hu with rfl | rfl | rfl
  · rfl
  · exact hv
  · rfl
theorem st_cv {s : Stt} (_h : s.ok) (R : List Value) : ((stlx s R).toArray)[0]? = some (.int .i64 s.cv) := by
  have e : stlx s R = [] ++ ([.int .i64 s.cv, .int .i64 s.ck, .int .i64 s.cs] ++ (k8 s.root ++ (k8 s.opr ++ (k8 s.opu ++ (k8 s.peer ++ ([.bool s.ho, .bool s.hp, .bool s.tu] ++ (k8 s.snd ++ (k8 s.shd ++ (k8 s.nsd ++ ([.int .u32 s.sn, .int .u32 s.pv, .bool s.hs] ++ (k8 s.rcv ++ (k8 s.rhd ++ (k8 s.nrv ++ ([.int .u32 s.rn, .bool s.hr, s.sp] ++ (R))))))))))))))) := rfl
  rw [e]
  exact getx _ _ _ 0 0 (rfl) (by simp)
theorem st_ck {s : Stt} (_h : s.ok) (R : List Value) : ((stlx s R).toArray)[1]? = some (.int .i64 s.ck) := by
  have e : stlx s R = [] ++ ([.int .i64 s.cv, .int .i64 s.ck, .int .i64 s.cs] ++ (k8 s.root ++ (k8 s.opr ++ (k8 s.opu ++ (k8 s.peer ++ ([.bool s.ho, .bool s.hp, .bool s.tu] ++ (k8 s.snd ++ (k8 s.shd ++ (k8 s.nsd ++ ([.int .u32 s.sn, .int .u32 s.pv, .bool s.hs] ++ (k8 s.rcv ++ (k8 s.rhd ++ (k8 s.nrv ++ ([.int .u32 s.rn, .bool s.hr, s.sp] ++ (R))))))))))))))) := rfl
  rw [e]
  exact getx _ _ _ 0 1 (rfl) (by simp)
theorem st_cs {s : Stt} (_h : s.ok) (R : List Value) : ((stlx s R).toArray)[2]? = some (.int .i64 s.cs) := by
  have e : stlx s R = [] ++ ([.int .i64 s.cv, .int .i64 s.ck, .int .i64 s.cs] ++ (k8 s.root ++ (k8 s.opr ++ (k8 s.opu ++ (k8 s.peer ++ ([.bool s.ho, .bool s.hp, .bool s.tu] ++ (k8 s.snd ++ (k8 s.shd ++ (k8 s.nsd ++ ([.int .u32 s.sn, .int .u32 s.pv, .bool s.hs] ++ (k8 s.rcv ++ (k8 s.rhd ++ (k8 s.nrv ++ ([.int .u32 s.rn, .bool s.hr, s.sp] ++ (R))))))))))))))) := rfl
  rw [e]
  exact getx _ _ _ 0 2 (rfl) (by simp)
theorem st_root {s : Stt} (h : s.ok) (R : List Value) : ((stlx s R).toArray).extract 3 (3 + (irow .u8 s.root).size) = irow .u8 s.root := by
  have e : stlx s R = ([.int .i64 s.cv, .int .i64 s.ck, .int .i64 s.cs]) ++ (k8 s.root ++ (k8 s.opr ++ (k8 s.opu ++ (k8 s.peer ++ ([.bool s.ho, .bool s.hp, .bool s.tu] ++ (k8 s.snd ++ (k8 s.shd ++ (k8 s.nsd ++ ([.int .u32 s.sn, .int .u32 s.pv, .bool s.hs] ++ (k8 s.rcv ++ (k8 s.rhd ++ (k8 s.nrv ++ ([.int .u32 s.rn, .bool s.hr, s.sp] ++ (R)))))))))))))) := rfl
  rw [e, irow_size, h.root]
  exact extr _ _ _ 3 32 (rfl) (by rw [k8_len, h.root])
theorem st_opr {s : Stt} (h : s.ok) (R : List Value) : ((stlx s R).toArray).extract 35 (35 + (irow .u8 s.opr).size) = irow .u8 s.opr := by
  have e : stlx s R = ([.int .i64 s.cv, .int .i64 s.ck, .int .i64 s.cs] ++ (k8 s.root)) ++ (k8 s.opr ++ (k8 s.opu ++ (k8 s.peer ++ ([.bool s.ho, .bool s.hp, .bool s.tu] ++ (k8 s.snd ++ (k8 s.shd ++ (k8 s.nsd ++ ([.int .u32 s.sn, .int .u32 s.pv, .bool s.hs] ++ (k8 s.rcv ++ (k8 s.rhd ++ (k8 s.nrv ++ ([.int .u32 s.rn, .bool s.hr, s.sp] ++ (R))))))))))))) := by simp only [stlx, List.append_assoc]
  rw [e, irow_size, h.opr]
  exact extr _ _ _ 35 32 (by simp only [List.length_append, List.length_cons, List.length_nil, k8_len, h.root]) (by rw [k8_len, h.opr])
theorem st_opu {s : Stt} (h : s.ok) (R : List Value) : ((stlx s R).toArray).extract 67 (67 + (irow .u8 s.opu).size) = irow .u8 s.opu := by
  have e : stlx s R = ([.int .i64 s.cv, .int .i64 s.ck, .int .i64 s.cs] ++ (k8 s.root ++ (k8 s.opr))) ++ (k8 s.opu ++ (k8 s.peer ++ ([.bool s.ho, .bool s.hp, .bool s.tu] ++ (k8 s.snd ++ (k8 s.shd ++ (k8 s.nsd ++ ([.int .u32 s.sn, .int .u32 s.pv, .bool s.hs] ++ (k8 s.rcv ++ (k8 s.rhd ++ (k8 s.nrv ++ ([.int .u32 s.rn, .bool s.hr, s.sp] ++ (R)))))))))))) := by simp only [stlx, List.append_assoc]
  rw [e, irow_size, h.opu]
  exact extr _ _ _ 67 32 (by simp only [List.length_append, List.length_cons, List.length_nil, k8_len, h.root, h.opr]) (by rw [k8_len, h.opu])
theorem st_peer {s : Stt} (h : s.ok) (R : List Value) : ((stlx s R).toArray).extract 99 (99 + (irow .u8 s.peer).size) = irow .u8 s.peer := by
  have e : stlx s R = ([.int .i64 s.cv, .int .i64 s.ck, .int .i64 s.cs] ++ (k8 s.root ++ (k8 s.opr ++ (k8 s.opu)))) ++ (k8 s.peer ++ ([.bool s.ho, .bool s.hp, .bool s.tu] ++ (k8 s.snd ++ (k8 s.shd ++ (k8 s.nsd ++ ([.int .u32 s.sn, .int .u32 s.pv, .bool s.hs] ++ (k8 s.rcv ++ (k8 s.rhd ++ (k8 s.nrv ++ ([.int .u32 s.rn, .bool s.hr, s.sp] ++ (R))))))))))) := by simp only [stlx, List.append_assoc]
  rw [e, irow_size, h.peer]
  exact extr _ _ _ 99 32 (by simp only [List.length_append, List.length_cons, List.length_nil, k8_len, h.root, h.opr, h.opu]) (by rw [k8_len, h.peer])
theorem st_ho {s : Stt} (h : s.ok) (R : List Value) : ((stlx s R).toArray)[131]? = some (.bool s.ho) := by
  have e : stlx s R = ([.int .i64 s.cv, .int .i64 s.ck, .int .i64 s.cs] ++ (k8 s.root ++ (k8 s.opr ++ (k8 s.opu ++ (k8 s.peer))))) ++ ([.bool s.ho, .bool s.hp, .bool s.tu] ++ (k8 s.snd ++ (k8 s.shd ++ (k8 s.nsd ++ ([.int .u32 s.sn, .int .u32 s.pv, .bool s.hs] ++ (k8 s.rcv ++ (k8 s.rhd ++ (k8 s.nrv ++ ([.int .u32 s.rn, .bool s.hr, s.sp] ++ (R)))))))))) := by simp only [stlx, List.append_assoc]
  rw [e]
  exact getx _ _ _ 131 0 (by simp only [List.length_append, List.length_cons, List.length_nil, k8_len, h.root, h.opr, h.opu, h.peer]) (by simp)
theorem st_hp {s : Stt} (h : s.ok) (R : List Value) : ((stlx s R).toArray)[132]? = some (.bool s.hp) := by
  have e : stlx s R = ([.int .i64 s.cv, .int .i64 s.ck, .int .i64 s.cs] ++ (k8 s.root ++ (k8 s.opr ++ (k8 s.opu ++ (k8 s.peer))))) ++ ([.bool s.ho, .bool s.hp, .bool s.tu] ++ (k8 s.snd ++ (k8 s.shd ++ (k8 s.nsd ++ ([.int .u32 s.sn, .int .u32 s.pv, .bool s.hs] ++ (k8 s.rcv ++ (k8 s.rhd ++ (k8 s.nrv ++ ([.int .u32 s.rn, .bool s.hr, s.sp] ++ (R)))))))))) := by simp only [stlx, List.append_assoc]
  rw [e]
  exact getx _ _ _ 131 1 (by simp only [List.length_append, List.length_cons, List.length_nil, k8_len, h.root, h.opr, h.opu, h.peer]) (by simp)
theorem st_tu {s : Stt} (h : s.ok) (R : List Value) : ((stlx s R).toArray)[133]? = some (.bool s.tu) := by
  have e : stlx s R = ([.int .i64 s.cv, .int .i64 s.ck, .int .i64 s.cs] ++ (k8 s.root ++ (k8 s.opr ++ (k8 s.opu ++ (k8 s.peer))))) ++ ([.bool s.ho, .bool s.hp, .bool s.tu] ++ (k8 s.snd ++ (k8 s.shd ++ (k8 s.nsd ++ ([.int .u32 s.sn, .int .u32 s.pv, .bool s.hs] ++ (k8 s.rcv ++ (k8 s.rhd ++ (k8 s.nrv ++ ([.int .u32 s.rn, .bool s.hr, s.sp] ++ (R)))))))))) := by simp only [stlx, List.append_assoc]
  rw [e]
  exact getx _ _ _ 131 2 (by simp only [List.length_append, List.length_cons, List.length_nil, k8_len, h.root, h.opr, h.opu, h.peer]) (by simp)
theorem st_snd {s : Stt} (h : s.ok) (R : List Value) : ((stlx s R).toArray).extract 134 (134 + (irow .u8 s.snd).size) = irow .u8 s.snd := by
  have e : stlx s R = ([.int .i64 s.cv, .int .i64 s.ck, .int .i64 s.cs] ++ (k8 s.root ++ (k8 s.opr ++ (k8 s.opu ++ (k8 s.peer ++ ([.bool s.ho, .bool s.hp, .bool s.tu])))))) ++ (k8 s.snd ++ (k8 s.shd ++ (k8 s.nsd ++ ([.int .u32 s.sn, .int .u32 s.pv, .bool s.hs] ++ (k8 s.rcv ++ (k8 s.rhd ++ (k8 s.nrv ++ ([.int .u32 s.rn, .bool s.hr, s.sp] ++ (R))))))))) := by simp only [stlx, List.append_assoc]
  rw [e, irow_size, h.snd]
  exact extr _ _ _ 134 32 (by simp only [List.length_append, List.length_cons, List.length_nil, k8_len, h.root, h.opr, h.opu, h.peer]) (by rw [k8_len, h.snd])
theorem st_shd {s : Stt} (h : s.ok) (R : List Value) : ((stlx s R).toArray).extract 166 (166 + (irow .u8 s.shd).size) = irow .u8 s.shd := by
  have e : stlx s R = ([.int .i64 s.cv, .int .i64 s.ck, .int .i64 s.cs] ++ (k8 s.root ++ (k8 s.opr ++ (k8 s.opu ++ (k8 s.peer ++ ([.bool s.ho, .bool s.hp, .bool s.tu] ++ (k8 s.snd))))))) ++ (k8 s.shd ++ (k8 s.nsd ++ ([.int .u32 s.sn, .int .u32 s.pv, .bool s.hs] ++ (k8 s.rcv ++ (k8 s.rhd ++ (k8 s.nrv ++ ([.int .u32 s.rn, .bool s.hr, s.sp] ++ (R)))))))) := by simp only [stlx, List.append_assoc]
  rw [e, irow_size, h.shd]
  exact extr _ _ _ 166 32 (by simp only [List.length_append, List.length_cons, List.length_nil, k8_len, h.root, h.opr, h.opu, h.peer, h.snd]) (by rw [k8_len, h.shd])
theorem st_nsd {s : Stt} (h : s.ok) (R : List Value) : ((stlx s R).toArray).extract 198 (198 + (irow .u8 s.nsd).size) = irow .u8 s.nsd := by
  have e : stlx s R = ([.int .i64 s.cv, .int .i64 s.ck, .int .i64 s.cs] ++ (k8 s.root ++ (k8 s.opr ++ (k8 s.opu ++ (k8 s.peer ++ ([.bool s.ho, .bool s.hp, .bool s.tu] ++ (k8 s.snd ++ (k8 s.shd)))))))) ++ (k8 s.nsd ++ ([.int .u32 s.sn, .int .u32 s.pv, .bool s.hs] ++ (k8 s.rcv ++ (k8 s.rhd ++ (k8 s.nrv ++ ([.int .u32 s.rn, .bool s.hr, s.sp] ++ (R))))))) := by simp only [stlx, List.append_assoc]
  rw [e, irow_size, h.nsd]
  exact extr _ _ _ 198 32 (by simp only [List.length_append, List.length_cons, List.length_nil, k8_len, h.root, h.opr, h.opu, h.peer, h.snd, h.shd]) (by rw [k8_len, h.nsd])
theorem st_sn {s : Stt} (h : s.ok) (R : List Value) : ((stlx s R).toArray)[230]? = some (.int .u32 s.sn) := by
  have e : stlx s R = ([.int .i64 s.cv, .int .i64 s.ck, .int .i64 s.cs] ++ (k8 s.root ++ (k8 s.opr ++ (k8 s.opu ++ (k8 s.peer ++ ([.bool s.ho, .bool s.hp, .bool s.tu] ++ (k8 s.snd ++ (k8 s.shd ++ (k8 s.nsd))))))))) ++ ([.int .u32 s.sn, .int .u32 s.pv, .bool s.hs] ++ (k8 s.rcv ++ (k8 s.rhd ++ (k8 s.nrv ++ ([.int .u32 s.rn, .bool s.hr, s.sp] ++ (R)))))) := by simp only [stlx, List.append_assoc]
  rw [e]
  exact getx _ _ _ 230 0 (by simp only [List.length_append, List.length_cons, List.length_nil, k8_len, h.root, h.opr, h.opu, h.peer, h.snd, h.shd, h.nsd]) (by simp)
theorem st_pv {s : Stt} (h : s.ok) (R : List Value) : ((stlx s R).toArray)[231]? = some (.int .u32 s.pv) := by
  have e : stlx s R = ([.int .i64 s.cv, .int .i64 s.ck, .int .i64 s.cs] ++ (k8 s.root ++ (k8 s.opr ++ (k8 s.opu ++ (k8 s.peer ++ ([.bool s.ho, .bool s.hp, .bool s.tu] ++ (k8 s.snd ++ (k8 s.shd ++ (k8 s.nsd))))))))) ++ ([.int .u32 s.sn, .int .u32 s.pv, .bool s.hs] ++ (k8 s.rcv ++ (k8 s.rhd ++ (k8 s.nrv ++ ([.int .u32 s.rn, .bool s.hr, s.sp] ++ (R)))))) := by simp only [stlx, List.append_assoc]
  rw [e]
  exact getx _ _ _ 230 1 (by simp only [List.length_append, List.length_cons, List.length_nil, k8_len, h.root, h.opr, h.opu, h.peer, h.snd, h.shd, h.nsd]) (by simp)
theorem st_hs {s : Stt} (h : s.ok) (R : List Value) : ((stlx s R).toArray)[232]? = some (.bool s.hs) := by
  have e : stlx s R = ([.int .i64 s.cv, .int .i64 s.ck, .int .i64 s.cs] ++ (k8 s.root ++ (k8 s.opr ++ (k8 s.opu ++ (k8 s.peer ++ ([.bool s.ho, .bool s.hp, .bool s.tu] ++ (k8 s.snd ++ (k8 s.shd ++ (k8 s.nsd))))))))) ++ ([.int .u32 s.sn, .int .u32 s.pv, .bool s.hs] ++ (k8 s.rcv ++ (k8 s.rhd ++ (k8 s.nrv ++ ([.int .u32 s.rn, .bool s.hr, s.sp] ++ (R)))))) := by simp only [stlx, List.append_assoc]
  rw [e]
  exact getx _ _ _ 230 2 (by simp only [List.length_append, List.length_cons, List.length_nil, k8_len, h.root, h.opr, h.opu, h.peer, h.snd, h.shd, h.nsd]) (by simp)
theorem st_rcv {s : Stt} (h : s.ok) (R : List Value) : ((stlx s R).toArray).extract 233 (233 + (irow .u8 s.rcv).size) = irow .u8 s.rcv := by
  have e : stlx s R = ([.int .i64 s.cv, .int .i64 s.ck, .int .i64 s.cs] ++ (k8 s.root ++ (k8 s.opr ++ (k8 s.opu ++ (k8 s.peer ++ ([.bool s.ho, .bool s.hp, .bool s.tu] ++ (k8 s.snd ++ (k8 s.shd ++ (k8 s.nsd ++ ([.int .u32 s.sn, .int .u32 s.pv, .bool s.hs])))))))))) ++ (k8 s.rcv ++ (k8 s.rhd ++ (k8 s.nrv ++ ([.int .u32 s.rn, .bool s.hr, s.sp] ++ (R))))) := by simp only [stlx, List.append_assoc]
  rw [e, irow_size, h.rcv]
  exact extr _ _ _ 233 32 (by simp only [List.length_append, List.length_cons, List.length_nil, k8_len, h.root, h.opr, h.opu, h.peer, h.snd, h.shd, h.nsd]) (by rw [k8_len, h.rcv])
theorem st_rhd {s : Stt} (h : s.ok) (R : List Value) : ((stlx s R).toArray).extract 265 (265 + (irow .u8 s.rhd).size) = irow .u8 s.rhd := by
  have e : stlx s R = ([.int .i64 s.cv, .int .i64 s.ck, .int .i64 s.cs] ++ (k8 s.root ++ (k8 s.opr ++ (k8 s.opu ++ (k8 s.peer ++ ([.bool s.ho, .bool s.hp, .bool s.tu] ++ (k8 s.snd ++ (k8 s.shd ++ (k8 s.nsd ++ ([.int .u32 s.sn, .int .u32 s.pv, .bool s.hs] ++ (k8 s.rcv))))))))))) ++ (k8 s.rhd ++ (k8 s.nrv ++ ([.int .u32 s.rn, .bool s.hr, s.sp] ++ (R)))) := by simp only [stlx, List.append_assoc]
  rw [e, irow_size, h.rhd]
  exact extr _ _ _ 265 32 (by simp only [List.length_append, List.length_cons, List.length_nil, k8_len, h.root, h.opr, h.opu, h.peer, h.snd, h.shd, h.nsd, h.rcv]) (by rw [k8_len, h.rhd])
theorem st_nrv {s : Stt} (h : s.ok) (R : List Value) : ((stlx s R).toArray).extract 297 (297 + (irow .u8 s.nrv).size) = irow .u8 s.nrv := by
  have e : stlx s R = ([.int .i64 s.cv, .int .i64 s.ck, .int .i64 s.cs] ++ (k8 s.root ++ (k8 s.opr ++ (k8 s.opu ++ (k8 s.peer ++ ([.bool s.ho, .bool s.hp, .bool s.tu] ++ (k8 s.snd ++ (k8 s.shd ++ (k8 s.nsd ++ ([.int .u32 s.sn, .int .u32 s.pv, .bool s.hs] ++ (k8 s.rcv ++ (k8 s.rhd)))))))))))) ++ (k8 s.nrv ++ ([.int .u32 s.rn, .bool s.hr, s.sp] ++ (R))) := by simp only [stlx, List.append_assoc]
  rw [e, irow_size, h.nrv]
  exact extr _ _ _ 297 32 (by simp only [List.length_append, List.length_cons, List.length_nil, k8_len, h.root, h.opr, h.opu, h.peer, h.snd, h.shd, h.nsd, h.rcv, h.rhd]) (by rw [k8_len, h.nrv])
theorem st_rn {s : Stt} (h : s.ok) (R : List Value) : ((stlx s R).toArray)[329]? = some (.int .u32 s.rn) := by
  have e : stlx s R = ([.int .i64 s.cv, .int .i64 s.ck, .int .i64 s.cs] ++ (k8 s.root ++ (k8 s.opr ++ (k8 s.opu ++ (k8 s.peer ++ ([.bool s.ho, .bool s.hp, .bool s.tu] ++ (k8 s.snd ++ (k8 s.shd ++ (k8 s.nsd ++ ([.int .u32 s.sn, .int .u32 s.pv, .bool s.hs] ++ (k8 s.rcv ++ (k8 s.rhd ++ (k8 s.nrv))))))))))))) ++ ([.int .u32 s.rn, .bool s.hr, s.sp] ++ (R)) := by simp only [stlx, List.append_assoc]
  rw [e]
  exact getx _ _ _ 329 0 (by simp only [List.length_append, List.length_cons, List.length_nil, k8_len, h.root, h.opr, h.opu, h.peer, h.snd, h.shd, h.nsd, h.rcv, h.rhd, h.nrv]) (by simp)
theorem st_hr {s : Stt} (h : s.ok) (R : List Value) : ((stlx s R).toArray)[330]? = some (.bool s.hr) := by
  have e : stlx s R = ([.int .i64 s.cv, .int .i64 s.ck, .int .i64 s.cs] ++ (k8 s.root ++ (k8 s.opr ++ (k8 s.opu ++ (k8 s.peer ++ ([.bool s.ho, .bool s.hp, .bool s.tu] ++ (k8 s.snd ++ (k8 s.shd ++ (k8 s.nsd ++ ([.int .u32 s.sn, .int .u32 s.pv, .bool s.hs] ++ (k8 s.rcv ++ (k8 s.rhd ++ (k8 s.nrv))))))))))))) ++ ([.int .u32 s.rn, .bool s.hr, s.sp] ++ (R)) := by simp only [stlx, List.append_assoc]
  rw [e]
  exact getx _ _ _ 329 1 (by simp only [List.length_append, List.length_cons, List.length_nil, k8_len, h.root, h.opr, h.opu, h.peer, h.snd, h.shd, h.nsd, h.rcv, h.rhd, h.nrv]) (by simp)
theorem st_sp {s : Stt} (h : s.ok) (R : List Value) : ((stlx s R).toArray)[331]? = some (s.sp) := by
  have e : stlx s R = ([.int .i64 s.cv, .int .i64 s.ck, .int .i64 s.cs] ++ (k8 s.root ++ (k8 s.opr ++ (k8 s.opu ++ (k8 s.peer ++ ([.bool s.ho, .bool s.hp, .bool s.tu] ++ (k8 s.snd ++ (k8 s.shd ++ (k8 s.nsd ++ ([.int .u32 s.sn, .int .u32 s.pv, .bool s.hs] ++ (k8 s.rcv ++ (k8 s.rhd ++ (k8 s.nrv))))))))))))) ++ ([.int .u32 s.rn, .bool s.hr, s.sp] ++ (R)) := by simp only [stlx, List.append_assoc]
  rw [e]
  exact getx _ _ _ 329 2 (by simp only [List.length_append, List.length_cons, List.length_nil, k8_len, h.root, h.opr, h.opu, h.peer, h.snd, h.shd, h.nsd, h.rcv, h.rhd, h.nrv]) (by simp)
def cfrow (a b c : Int) : Array Value := #[.int .i64 a, .int .i64 b, .int .i64 c]
def prow (a b : List Int) : Array Value := (k8 a ++ (k8 b ++ [])).toArray
theorem prow_size {a b : List Int} (ha : a.length = 32) (hb : b.length = 32) : (prow a b).size = 64 := by simp [prow, k8_len, ha, hb]
theorem prow_one (a b : List Int) : (prow a b).all (·.oneCell') = true := by
  rw [prow, List.all_toArray, List.all_eq_true]
  intro u hu
  simp only [List.mem_append, List.not_mem_nil, or_false] at hu
  rcases hu with hu | hu <;> exact k8_one _ _ hu
theorem pr_a {a b : List Int} (ha : a.length = 32) : (prow a b).extract 0 (0 + (irow .u8 a).size) = irow .u8 a := by
  rw [irow_size, ha]
  exact extr [] (k8 a) (k8 b ++ []) 0 32 rfl (by rw [k8_len, ha])
theorem pr_b {a b : List Int} (ha : a.length = 32) (hb : b.length = 32) : (prow a b).extract 32 (32 + (irow .u8 b).size) = irow .u8 b := by
  rw [irow_size, hb]
  exact extr (k8 a) (k8 b) [] 32 32 (by rw [k8_len, ha]) (by rw [k8_len, hb])
theorem st_cfg (s : Stt) (R : List Value) : ((stlx s R).toArray).extract 0 (0 + (cfrow s.cv s.ck s.cs).size) = cfrow s.cv s.ck s.cs := extr [] [.int .i64 s.cv, .int .i64 s.ck, .int .i64 s.cs] (k8 s.root ++ (k8 s.opr ++ (k8 s.opu ++ (k8 s.peer ++ ([.bool s.ho, .bool s.hp, .bool s.tu] ++ (k8 s.snd ++ (k8 s.shd ++ (k8 s.nsd ++ ([.int .u32 s.sn, .int .u32 s.pv, .bool s.hs] ++ (k8 s.rcv ++ (k8 s.rhd ++ (k8 s.nrv ++ ([.int .u32 s.rn, .bool s.hr, s.sp] ++ (R)))))))))))))) 0 3 rfl rfl
theorem st_own {s : Stt} (h : s.ok) (R : List Value) : ((stlx s R).toArray).extract 35 (35 + (prow s.opr s.opu).size) = prow s.opr s.opu := by
  have e : stlx s R = ([.int .i64 s.cv, .int .i64 s.ck, .int .i64 s.cs] ++ (k8 s.root)) ++ ((k8 s.opr ++ (k8 s.opu ++ [])) ++ (k8 s.peer ++ ([.bool s.ho, .bool s.hp, .bool s.tu] ++ (k8 s.snd ++ (k8 s.shd ++ (k8 s.nsd ++ ([.int .u32 s.sn, .int .u32 s.pv, .bool s.hs] ++ (k8 s.rcv ++ (k8 s.rhd ++ (k8 s.nrv ++ ([.int .u32 s.rn, .bool s.hr, s.sp] ++ (R)))))))))))) := by simp only [stlx, List.append_assoc, List.append_nil]
  rw [e, prow_size h.opr h.opu]
  exact extr _ _ _ 35 64 (by simp only [List.length_append, List.length_cons, List.length_nil, k8_len, h.root]) (by simp only [List.length_append, List.length_nil, k8_len, h.opr, h.opu])
theorem st_all (s : Stt) {h : s.ok} (R : List Value) : ((stlx s R).toArray).extract 0 (0 + (strow s).size) = strow s := by
  have e : stlx s R = [] ++ (stlx s [] ++ R) := by simp only [stlx, List.append_assoc, List.append_nil, List.nil_append, List.cons_append]
  rw [e, strow_size h]
  exact extr _ _ _ 0 332 rfl (by rw [stlx_len h]; rfl)
theorem infoSt {s : Stt} (h : s.ok) : (Tryd.prog.info? 38).map (·.size) = some (strow s).size := by rw [strow_size h]; kernel_rfl
theorem infoSd {s : Stt} (h : s.ok) (most : Int) (v : Value) (b : Option Nat) : (Tryd.prog.info? 65).map (·.size) = some (sdrow s most v b).size := by rw [sdrow_size h]; kernel_rfl
theorem infoRt {s : Stt} (h : s.ok) (most : Int) (v : Value) (b : Option Nat) : (Tryd.prog.info? 67).map (·.size) = some (sdrow s most v b).size := by rw [sdrow_size h]; kernel_rfl
theorem infoCf {a b c : Int} : (Tryd.prog.info? 27).map (·.size) = some (cfrow a b c).size := by kernel_rfl
theorem infoPr {a b : List Int} (ha : a.length = 32) (hb : b.length = 32) : (Tryd.prog.info? 25).map (·.size) = some (prow a b).size := by rw [prow_size ha hb]; kernel_rfl
def zst : Stt := ⟨0, 0, 0, zr 32, zr 32, zr 32, zr 32, false, false, false, zr 32, zr 32, zr 32, 0, 0, false, zr 32, zr 32, zr 32, 0, false, .slice none 0 0⟩
theorem zst_ok : zst.ok := ⟨rfl, rfl, rfl, rfl, rfl, rfl, rfl, rfl, rfl, rfl, rfl⟩
theorem zStA (W : World) : (Instr.alloc 38 true (.tuple #[])).run Tryd.prog W = .ok (.pointer (some ⟨W.heap.size, 0, none⟩)) (W.alloc (.cells (strow zst) 38)) := by kernel_rfl
theorem zSdA (W : World) : (Instr.alloc 65 true (.tuple #[])).run Tryd.prog W = .ok (.pointer (some ⟨W.heap.size, 0, none⟩)) (W.alloc (.cells (sdrow zst 0 (.slice none 0 0) none) 65)) := by kernel_rfl
theorem bStA (cs : Array Value) (W : World) : (Instr.box 38 (.agg cs)).run Tryd.prog W = .ok (.pointer (some ⟨W.heap.size, 0, none⟩)) (W.alloc (.cells cs 38)) := by kernel_rfl
theorem bCfA (cs : Array Value) (W : World) : (Instr.box 27 (.agg cs)).run Tryd.prog W = .ok (.pointer (some ⟨W.heap.size, 0, none⟩)) (W.alloc (.cells cs 27)) := by kernel_rfl
theorem bPrA (cs : Array Value) (W : World) : (Instr.box 25 (.agg cs)).run Tryd.prog W = .ok (.pointer (some ⟨W.heap.size, 0, none⟩)) (W.alloc (.cells cs 25)) := by kernel_rfl
theorem bSdA (cs : Array Value) (W : World) : (Instr.box 65 (.agg cs)).run Tryd.prog W = .ok (.pointer (some ⟨W.heap.size, 0, none⟩)) (W.alloc (.cells cs 65)) := by kernel_rfl
theorem bRtA (cs : Array Value) (W : World) : (Instr.box 67 (.agg cs)).run Tryd.prog W = .ok (.pointer (some ⟨W.heap.size, 0, none⟩)) (W.alloc (.cells cs 67)) := by kernel_rfl
theorem builtZk : Tryd.prog.built 23 [] = some (irow .u8 (zr 32)) := by kernel_rfl
theorem builtZp : Tryd.prog.built 25 [] = some (prow (zr 32) (zr 32)) := by kernel_rfl
theorem builtZs : Tryd.prog.built 38 [] = some (strow zst) := by kernel_rfl
theorem builtZd : Tryd.prog.built 65 [] = some (sdrow zst 0 (.slice none 0 0) none) := by kernel_rfl
/-! Equality. -/
theorem strC : Tryd.prog.underlying 27 = some (.struct (Tryd.prog.fieldsOf 27)) := by kernel_rfl
theorem stoC : Tryd.prog.stoodInHeld 27 = false := by kernel_rfl
theorem strP : Tryd.prog.underlying 25 = some (.struct (Tryd.prog.fieldsOf 25)) := by kernel_rfl
theorem stoP : Tryd.prog.stoodInHeld 25 = false := by kernel_rfl
theorem fldP : ∃ f1 f2, (Tryd.prog.fieldsOf 25).toList = [f1, f2] ∧ f1.name ≠ "_" ∧ f1.type = 23 ∧ f1.offset = 0 ∧ f2.name ≠ "_" ∧ f2.type = 23 ∧ f2.offset = 32 := ⟨_, _, rfl, by decide, rfl, rfl, by decide, rfl, rfl⟩
theorem fldC : ∃ f1 f2 f3, (Tryd.prog.fieldsOf 27).toList = [f1, f2, f3] ∧ f1.name ≠ "_" ∧ f1.type = 3 ∧ f1.offset = 0 ∧ f2.name ≠ "_" ∧ f2.type = 3 ∧ f2.offset = 1 ∧ f3.name ≠ "_" ∧ f3.type = 3 ∧ f3.offset = 2 := ⟨_, _, _, rfl, by decide, rfl, rfl, by decide, rfl, rfl, by decide, rfl, rfl⟩
theorem part_i {cs : Array Value} {n : Int} {o : Nat} (h : cs[o]? = some (.int .i64 n)) (W : World) : (part 3 cs o).run Tryd.prog W = .ok (.int .i64 n) W := by
  have ha : (isAgg 3).run Tryd.prog W = .ok false W := by
    unfold isAgg
    rw [Sem.run_bind, run_underlying Tryd.underlying3 W]
    rfl
  simp [part, Sem.run_bind, ha, h]
theorem eq_cfg (a b c x y z : Int) (W : World) : (Op.equalIn 10000 27 (.agg (cfrow a b c)) (.agg (cfrow x y z))).run Tryd.prog W = .ok (decide (a = x ∧ b = y ∧ c = z)) W := by
  obtain ⟨f1, f2, f3, hf, n1, t1, o1, n2, t2, o2, n3, t3, o3⟩ := fldC
  rw [run_equalIn_struct W 9999 27 _ _ strC stoC, hf]
  have i0 := fun p q => run_equalIn_int W (P := Tryd.prog) 9998 3 .i64 .i64 p q Tryd.underlying3
  rw [eqf_cons n1 (by rw [t1, o1]; exact part_i rfl W) (by rw [t1, o1]; exact part_i rfl W) (by rw [t1]; exact i0 a x), eqf_cons n2 (by rw [t2, o2]; exact part_i rfl W) (by rw [t2, o2]; exact part_i rfl W) (by rw [t2]; exact i0 b y), eqf_cons n3 (by rw [t3, o3]; exact part_i rfl W) (by rw [t3, o3]; exact part_i rfl W) (by rw [t3]; exact i0 c z), eqf_nil]
  by_cases e1 : a = x
  · by_cases e2 : b = y
    · by_cases e3 : c = z <;> simp [e1, e2, e3]
    · simp [e1, e2]
  · simp [e1]
theorem eq_pair (a b x y : List Int) (ha : a.length = 32) (hb : b.length = 32) (hx : x.length = 32) (hy : y.length = 32) (W : World) : (Op.equalIn 10000 25 (.agg (prow a b)) (.agg (prow x y))).run Tryd.prog W = .ok (decide (a = x ∧ b = y)) W := by
  obtain ⟨f1, f2, hf, n1, t1, o1, n2, t2, o2⟩ := fldP
  rw [run_equalIn_struct W 9999 25 _ _ strP stoP, hf]
  rw [eqf_cons n1 (by rw [t1, o1]; exact part_key ha (pr_a ha) W) (by rw [t1, o1]; exact part_key hx (pr_a hx) W) (by rw [t1]; exact eq_key 9997 a x ha hx W), eqf_cons n2 (by rw [t2, o2]; exact part_key hb (pr_b ha hb) W) (by rw [t2, o2]; exact part_key hy (pr_b hx hy) W) (by rw [t2]; exact eq_key 9997 b y hb hy W), eqf_nil]
  by_cases e1 : a = x
  · by_cases e2 : b = y <;> simp [e1, e2]
  · simp [e1]
theorem eq_k (x y : List Int) (hx : x.length = 32) (hy : y.length = 32) (W : World) : (Op.equalIn 10000 23 (.agg (irow .u8 x)) (.agg (irow .u8 y))).run Tryd.prog W = .ok (decide (x = y)) W := eq_key 9998 x y hx hy W
theorem wpList_build_want {P : Program} {ops : Array Oper} {rest : List Oper} {o : Oper} {a : Act} {w : World} {Q : Exit → Act → World → Prop} (hw : Region.wanted o (yielded ops a.tmps) = true) (t : TypeId) (parts : Array (Nat × Operand)) (ho : o.op = .build t parts)
    (vals : List (Nat × Value)) (hv : parts.toList.map (fun (i, x) => (i, a.eval x)) = vals) (cells : Array Value) (hb : P.built t vals = some cells)
    (h : wpList P ops Q rest (a.put o.dst (.agg cells)) w) : wpList P ops Q (o :: rest) a w := by
  rw [← Array.toList_map] at hv
  subst hv
  refine BigFrame.wpList_want hw fun _ hK => ?_
  unfold Oper.wp execOp
  simp only [ho, Sem.run_bind, run_build w t _ cells hb, Result.andThen_ok]
  exact hK _ _ h

end Go.Proofs.YtjofbnilhkmpeaaDoor
