import Derived.Test.YtjofbnilhkmpeaaDoorProg
import Derived.WalkKit
import Derived.WalkSpells
import Derived.WalkLawsBesides
import Derived.Lib.QuietBelow
import Derived.BigQuiet
import Derived.OrdersHeld
import Derived.Deep.RegionHeld3
import Derived.OwnWalk
import Derived.Deep.CutRange
import Derived.Test.YtjofbnilhkmpeaaDoorKa
import Derived.Test.YtjofbnilhkmpeaaDoorRtc
import Derived.Test.YtjofbnilhkmpeaaDoorRtd
namespace Go.Proofs.YtjofbnilhkmpeaaDoor
set_option maxRecDepth 100000
open Go Go.RowKit Go.Sort Go.ChangeMaps Go.MapKept
attribute [local go_sem] setCell_drewN alloc_drewN

def B5 (s : Stt) (n : Nat) : Bool := decide ((n : Int) > s.cs) || (!s.ho && !decide (s.opr = zr 32 ∧ s.opu = zr 32)) || (s.ho && !ipr s.opr s.opu)
def B7 (s : Stt) : Bool := (!s.hp && (!decide (s.peer = zr 32) || s.tu || s.hs || s.hr)) || (s.hp && !s.tu && !s.hs)
def B9 (s : Stt) : Bool := (s.hs || s.hr) && !s.ho
def B11 (s : Stt) : Bool := !s.hs && (!decide (s.snd = zr 32) || !decide (s.shd = zr 32) || (s.sn != 0) || (s.pv != 0))
def B13 (s : Stt) : Bool := !s.hr && (!decide (s.rcv = zr 32) || !decide (s.rhd = zr 32) || (s.rn != 0))
def rck (s : Stt) (l : List Sr) : Int := if cfE s.cv s.ck s.cs ≠ 0 then cfE s.cv s.ck s.cs else if B5 s l.length = true then 130 else if B7 s = true then 130 else if B9 s = true then 130 else if B11 s = true then 130 else if B13 s = true then 130 else if mts [] l = true then 130 else 0
theorem rk0 {s : Stt} {l : List Sr} (h : cfE s.cv s.ck s.cs ≠ 0) : rck s l = cfE s.cv s.ck s.cs := if_pos h
theorem rk1 {s : Stt} {l : List Sr} (h0 : cfE s.cv s.ck s.cs = 0) (h5 : B5 s l.length = true) : rck s l = 130 := by rw [rck, if_neg (by rw [h0]; decide), if_pos h5]
theorem rk2 {s : Stt} {l : List Sr} (h0 : cfE s.cv s.ck s.cs = 0) (h5 : B5 s l.length = false) (h7 : B7 s = true) : rck s l = 130 := by rw [rck, if_neg (by rw [h0]; decide), if_neg (by rw [h5]; decide), if_pos h7]
theorem rk3 {s : Stt} {l : List Sr} (h0 : cfE s.cv s.ck s.cs = 0) (h5 : B5 s l.length = false) (h7 : B7 s = false) (h9 : B9 s = true) : rck s l = 130 := by rw [rck, if_neg (by rw [h0]; decide), if_neg (by rw [h5]; decide), if_neg (by rw [h7]; decide), if_pos h9]
theorem rk4 {s : Stt} {l : List Sr} (h0 : cfE s.cv s.ck s.cs = 0) (h5 : B5 s l.length = false) (h7 : B7 s = false) (h9 : B9 s = false) (h11 : B11 s = true) : rck s l = 130 := by rw [rck, if_neg (by rw [h0]; decide), if_neg (by rw [h5]; decide), if_neg (by rw [h7]; decide), if_neg (by rw [h9]; decide), if_pos h11]
theorem rk5 {s : Stt} {l : List Sr} (h0 : cfE s.cv s.ck s.cs = 0) (h5 : B5 s l.length = false) (h7 : B7 s = false) (h9 : B9 s = false) (h11 : B11 s = false) (h13 : B13 s = true) : rck s l = 130 := by rw [rck, if_neg (by rw [h0]; decide), if_neg (by rw [h5]; decide), if_neg (by rw [h7]; decide), if_neg (by rw [h9]; decide), if_neg (by rw [h11]; decide), if_pos h13]
theorem rk6 {s : Stt} {l : List Sr} (h0 : cfE s.cv s.ck s.cs = 0) (h5 : B5 s l.length = false) (h7 : B7 s = false) (h9 : B9 s = false) (h11 : B11 s = false) (h13 : B13 s = false) (ht : mts [] l = true) : rck s l = 130 := by rw [rck, if_neg (by rw [h0]; decide), if_neg (by rw [h5]; decide), if_neg (by rw [h7]; decide), if_neg (by rw [h9]; decide), if_neg (by rw [h11]; decide), if_neg (by rw [h13]; decide), if_pos ht]
theorem rk7 {s : Stt} {l : List Sr} (h0 : cfE s.cv s.ck s.cs = 0) (h5 : B5 s l.length = false) (h7 : B7 s = false) (h9 : B9 s = false) (h11 : B11 s = false) (h13 : B13 s = false) (ht : mts [] l = false) : rck s l = 0 := by rw [rck, if_neg (by rw [h0]; decide), if_neg (by rw [h5]; decide), if_neg (by rw [h7]; decide), if_neg (by rw [h9]; decide), if_neg (by rw [h11]; decide), if_neg (by rw [h13]; decide), if_neg (by rw [ht]; decide)]

end Go.Proofs.YtjofbnilhkmpeaaDoor
