import Derived.Test.YtdimjlbnjhopgaaDoorProg
import Derived.WalkKit
import Derived.WalkSpells
import Derived.WalkLawsBesides
import Derived.Lib.QuietBelow
import Derived.BigQuiet
import Derived.Test.YtdimjlbnjhopgaaDoorKa
import Derived.Test.YtdimjlbnjhopgaaDoorCx
import Derived.Test.YtdimjlbnjhopgaaDoorCla
namespace Go.Proofs.YtdimjlbnjhopgaaDoor
open Go.RowKit Go.Sort
attribute [local go_sem] setCell_drewN alloc_drewN


theorem scn_of {S X V : Int} (hb : (lad S X 255).b % prm ≠ 0) (hV : 0 ≤ V ∧ V < prm) (h : V * (lad S X 255).b % prm = (lad S X 255).a % prm) : scn S X = V := by
  unfold scn
  have hi := inv_mul hb
  generalize (lad S X 255).b = b at *
  generalize (lad S X 255).a = a at *
  generalize b ^ 57896044618658097711785492504343953926634992332820282019728792003956564819947 = i at *
  have e1 : a * (i % prm) % prm = V * b * i % prm := by
    rw [Int.mul_emod, Int.emod_emod, ← h, ← Int.mul_emod]
  rw [e1, Int.mul_assoc, Int.mul_emod, hi, ← Int.mul_emod, Int.mul_one]
  exact Int.emod_eq_of_lt hV.1 hV.2

theorem vec1 : scl 88925887110773138616681052956207043583107764937498542285260013040410376226469 34426434033919594451155107781188821651316167215306631574996226621102155684838 = 37325765543539916631701301279660700968428932651319597985674090122993663859395 := by
  refine scn_of ?_ (by decide) ?_
  · decide +kernel
  · decide +kernel
theorem vec2 : scl 6208869506345768410841466502331656783811117849709423753404619313487976949323 66779901969842027605876251890954603246052331132842480964984187926304357556709 = 39566196721700740701373067725336211924689549479508623342842086701180565506965 := by
  refine scn_of ?_ (by decide) ?_
  · decide +kernel
  · decide +kernel
theorem vec3 : scl 9 9 = 54815864700279561125610391355931320566748822376190344121911385527384361806914 := by
  refine scn_of ?_ (by decide) ?_
  · decide +kernel
  · decide +kernel
theorem vstr0 : Gives 9 #[.string ⟨#[97, 53, 52, 54, 101, 51, 54, 98, 102, 48, 53, 50, 55, 99, 57, 100, 51, 98, 49, 54, 49, 53, 52, 98, 56, 50, 52, 54, 53, 101, 100, 100, 54, 50, 49, 52, 52, 99, 48, 97, 99, 49, 102, 99, 53, 97, 49, 56, 53, 48, 54, 97, 50, 50, 52, 52, 98, 97, 52, 52, 57, 97, 99, 52]⟩] (.agg (kb 88925887110773138616681052956207043583107764937498542285260013040410376226469)) := by
  have h := vector_walk ⟨#[97, 53, 52, 54, 101, 51, 54, 98, 102, 48, 53, 50, 55, 99, 57, 100, 51, 98, 49, 54, 49, 53, 52, 98, 56, 50, 52, 54, 53, 101, 100, 100, 54, 50, 49, 52, 52, 99, 48, 97, 99, 49, 102, 99, 53, 97, 49, 56, 53, 48, 54, 97, 50, 50, 52, 52, 98, 97, 52, 52, 57, 97, 99, 52]⟩ rfl (by unfold isHx; decide +kernel)
  rwa [show vrow ⟨#[97, 53, 52, 54, 101, 51, 54, 98, 102, 48, 53, 50, 55, 99, 57, 100, 51, 98, 49, 54, 49, 53, 52, 98, 56, 50, 52, 54, 53, 101, 100, 100, 54, 50, 49, 52, 52, 99, 48, 97, 99, 49, 102, 99, 53, 97, 49, 56, 53, 48, 54, 97, 50, 50, 52, 52, 98, 97, 52, 52, 57, 97, 99, 52]⟩ 32 = kb 88925887110773138616681052956207043583107764937498542285260013040410376226469 by kernel_rfl] at h
theorem vkey0 : KeyOf (kb 88925887110773138616681052956207043583107764937498542285260013040410376226469) 88925887110773138616681052956207043583107764937498542285260013040410376226469 := kb_key _ (by decide) (by decide)
theorem vstr1 : Gives 9 #[.string ⟨#[101, 54, 100, 98, 54, 56, 54, 55, 53, 56, 51, 48, 51, 48, 100, 98, 51, 53, 57, 52, 99, 49, 97, 52, 50, 52, 98, 49, 53, 102, 55, 99, 55, 50, 54, 54, 50, 52, 101, 99, 50, 54, 98, 51, 51, 53, 51, 98, 49, 48, 97, 57, 48, 51, 97, 54, 100, 48, 97, 98, 49, 99, 52, 99]⟩] (.agg (kb 34426434033919594451155107781188821651316167215306631574996226621102155684838)) := by
  have h := vector_walk ⟨#[101, 54, 100, 98, 54, 56, 54, 55, 53, 56, 51, 48, 51, 48, 100, 98, 51, 53, 57, 52, 99, 49, 97, 52, 50, 52, 98, 49, 53, 102, 55, 99, 55, 50, 54, 54, 50, 52, 101, 99, 50, 54, 98, 51, 51, 53, 51, 98, 49, 48, 97, 57, 48, 51, 97, 54, 100, 48, 97, 98, 49, 99, 52, 99]⟩ rfl (by unfold isHx; decide +kernel)
  rwa [show vrow ⟨#[101, 54, 100, 98, 54, 56, 54, 55, 53, 56, 51, 48, 51, 48, 100, 98, 51, 53, 57, 52, 99, 49, 97, 52, 50, 52, 98, 49, 53, 102, 55, 99, 55, 50, 54, 54, 50, 52, 101, 99, 50, 54, 98, 51, 51, 53, 51, 98, 49, 48, 97, 57, 48, 51, 97, 54, 100, 48, 97, 98, 49, 99, 52, 99]⟩ 32 = kb 34426434033919594451155107781188821651316167215306631574996226621102155684838 by kernel_rfl] at h
theorem vkey1 : KeyOf (kb 34426434033919594451155107781188821651316167215306631574996226621102155684838) 34426434033919594451155107781188821651316167215306631574996226621102155684838 := kb_key _ (by decide) (by decide)
theorem vstr2 : Gives 9 #[.string ⟨#[99, 51, 100, 97, 53, 53, 51, 55, 57, 100, 101, 57, 99, 54, 57, 48, 56, 101, 57, 52, 101, 97, 52, 100, 102, 50, 56, 100, 48, 56, 52, 102, 51, 50, 101, 99, 99, 102, 48, 51, 52, 57, 49, 99, 55, 49, 102, 55, 53, 52, 98, 52, 48, 55, 53, 53, 55, 55, 97, 50, 56, 53, 53, 50]⟩] (.agg (kb 37325765543539916631701301279660700968428932651319597985674090122993663859395)) := by
  have h := vector_walk ⟨#[99, 51, 100, 97, 53, 53, 51, 55, 57, 100, 101, 57, 99, 54, 57, 48, 56, 101, 57, 52, 101, 97, 52, 100, 102, 50, 56, 100, 48, 56, 52, 102, 51, 50, 101, 99, 99, 102, 48, 51, 52, 57, 49, 99, 55, 49, 102, 55, 53, 52, 98, 52, 48, 55, 53, 53, 55, 55, 97, 50, 56, 53, 53, 50]⟩ rfl (by unfold isHx; decide +kernel)
  rwa [show vrow ⟨#[99, 51, 100, 97, 53, 53, 51, 55, 57, 100, 101, 57, 99, 54, 57, 48, 56, 101, 57, 52, 101, 97, 52, 100, 102, 50, 56, 100, 48, 56, 52, 102, 51, 50, 101, 99, 99, 102, 48, 51, 52, 57, 49, 99, 55, 49, 102, 55, 53, 52, 98, 52, 48, 55, 53, 53, 55, 55, 97, 50, 56, 53, 53, 50]⟩ 32 = kb 37325765543539916631701301279660700968428932651319597985674090122993663859395 by kernel_rfl] at h
theorem vkey2 : KeyOf (kb 37325765543539916631701301279660700968428932651319597985674090122993663859395) 37325765543539916631701301279660700968428932651319597985674090122993663859395 := kb_key _ (by decide) (by decide)
theorem vstr3 : Gives 9 #[.string ⟨#[52, 98, 54, 54, 101, 57, 100, 52, 100, 49, 98, 52, 54, 55, 51, 99, 53, 97, 100, 50, 50, 54, 57, 49, 57, 53, 55, 100, 54, 97, 102, 53, 99, 49, 49, 98, 54, 52, 50, 49, 101, 48, 101, 97, 48, 49, 100, 52, 50, 99, 97, 52, 49, 54, 57, 101, 55, 57, 49, 56, 98, 97, 48, 100]⟩] (.agg (kb 6208869506345768410841466502331656783811117849709423753404619313487976949323)) := by
  have h := vector_walk ⟨#[52, 98, 54, 54, 101, 57, 100, 52, 100, 49, 98, 52, 54, 55, 51, 99, 53, 97, 100, 50, 50, 54, 57, 49, 57, 53, 55, 100, 54, 97, 102, 53, 99, 49, 49, 98, 54, 52, 50, 49, 101, 48, 101, 97, 48, 49, 100, 52, 50, 99, 97, 52, 49, 54, 57, 101, 55, 57, 49, 56, 98, 97, 48, 100]⟩ rfl (by unfold isHx; decide +kernel)
  rwa [show vrow ⟨#[52, 98, 54, 54, 101, 57, 100, 52, 100, 49, 98, 52, 54, 55, 51, 99, 53, 97, 100, 50, 50, 54, 57, 49, 57, 53, 55, 100, 54, 97, 102, 53, 99, 49, 49, 98, 54, 52, 50, 49, 101, 48, 101, 97, 48, 49, 100, 52, 50, 99, 97, 52, 49, 54, 57, 101, 55, 57, 49, 56, 98, 97, 48, 100]⟩ 32 = kb 6208869506345768410841466502331656783811117849709423753404619313487976949323 by kernel_rfl] at h
theorem vkey3 : KeyOf (kb 6208869506345768410841466502331656783811117849709423753404619313487976949323) 6208869506345768410841466502331656783811117849709423753404619313487976949323 := kb_key _ (by decide) (by decide)
theorem vstr4 : Gives 9 #[.string ⟨#[101, 53, 50, 49, 48, 102, 49, 50, 55, 56, 54, 56, 49, 49, 100, 51, 102, 52, 98, 55, 57, 53, 57, 100, 48, 53, 51, 56, 97, 101, 50, 99, 51, 49, 100, 98, 101, 55, 49, 48, 54, 102, 99, 48, 51, 99, 51, 101, 102, 99, 52, 99, 100, 53, 52, 57, 99, 55, 49, 53, 97, 52, 57, 51]⟩] (.agg (kb 66779901969842027605876251890954603246052331132842480964984187926304357556709)) := by
  have h := vector_walk ⟨#[101, 53, 50, 49, 48, 102, 49, 50, 55, 56, 54, 56, 49, 49, 100, 51, 102, 52, 98, 55, 57, 53, 57, 100, 48, 53, 51, 56, 97, 101, 50, 99, 51, 49, 100, 98, 101, 55, 49, 48, 54, 102, 99, 48, 51, 99, 51, 101, 102, 99, 52, 99, 100, 53, 52, 57, 99, 55, 49, 53, 97, 52, 57, 51]⟩ rfl (by unfold isHx; decide +kernel)
  rwa [show vrow ⟨#[101, 53, 50, 49, 48, 102, 49, 50, 55, 56, 54, 56, 49, 49, 100, 51, 102, 52, 98, 55, 57, 53, 57, 100, 48, 53, 51, 56, 97, 101, 50, 99, 51, 49, 100, 98, 101, 55, 49, 48, 54, 102, 99, 48, 51, 99, 51, 101, 102, 99, 52, 99, 100, 53, 52, 57, 99, 55, 49, 53, 97, 52, 57, 51]⟩ 32 = kb 66779901969842027605876251890954603246052331132842480964984187926304357556709 by kernel_rfl] at h
theorem vkey4 : KeyOf (kb 66779901969842027605876251890954603246052331132842480964984187926304357556709) 66779901969842027605876251890954603246052331132842480964984187926304357556709 := kb_key _ (by decide) (by decide)
theorem vstr5 : Gives 9 #[.string ⟨#[57, 53, 99, 98, 100, 101, 57, 52, 55, 54, 101, 56, 57, 48, 55, 100, 55, 97, 97, 100, 101, 52, 53, 99, 98, 52, 98, 56, 55, 51, 102, 56, 56, 98, 53, 57, 53, 97, 54, 56, 55, 57, 57, 102, 97, 49, 53, 50, 101, 54, 102, 56, 102, 55, 54, 52, 55, 97, 97, 99, 55, 57, 53, 55]⟩] (.agg (kb 39566196721700740701373067725336211924689549479508623342842086701180565506965)) := by
  have h := vector_walk ⟨#[57, 53, 99, 98, 100, 101, 57, 52, 55, 54, 101, 56, 57, 48, 55, 100, 55, 97, 97, 100, 101, 52, 53, 99, 98, 52, 98, 56, 55, 51, 102, 56, 56, 98, 53, 57, 53, 97, 54, 56, 55, 57, 57, 102, 97, 49, 53, 50, 101, 54, 102, 56, 102, 55, 54, 52, 55, 97, 97, 99, 55, 57, 53, 55]⟩ rfl (by unfold isHx; decide +kernel)
  rwa [show vrow ⟨#[57, 53, 99, 98, 100, 101, 57, 52, 55, 54, 101, 56, 57, 48, 55, 100, 55, 97, 97, 100, 101, 52, 53, 99, 98, 52, 98, 56, 55, 51, 102, 56, 56, 98, 53, 57, 53, 97, 54, 56, 55, 57, 57, 102, 97, 49, 53, 50, 101, 54, 102, 56, 102, 55, 54, 52, 55, 97, 97, 99, 55, 57, 53, 55]⟩ 32 = kb 39566196721700740701373067725336211924689549479508623342842086701180565506965 by kernel_rfl] at h
theorem vkey5 : KeyOf (kb 39566196721700740701373067725336211924689549479508623342842086701180565506965) 39566196721700740701373067725336211924689549479508623342842086701180565506965 := kb_key _ (by decide) (by decide)
theorem vstr6 : Gives 9 #[.string ⟨#[48, 57, 48, 48, 48, 48, 48, 48, 48, 48, 48, 48, 48, 48, 48, 48, 48, 48, 48, 48, 48, 48, 48, 48, 48, 48, 48, 48, 48, 48, 48, 48, 48, 48, 48, 48, 48, 48, 48, 48, 48, 48, 48, 48, 48, 48, 48, 48, 48, 48, 48, 48, 48, 48, 48, 48, 48, 48, 48, 48, 48, 48, 48, 48]⟩] (.agg (kb 9)) := by
  have h := vector_walk ⟨#[48, 57, 48, 48, 48, 48, 48, 48, 48, 48, 48, 48, 48, 48, 48, 48, 48, 48, 48, 48, 48, 48, 48, 48, 48, 48, 48, 48, 48, 48, 48, 48, 48, 48, 48, 48, 48, 48, 48, 48, 48, 48, 48, 48, 48, 48, 48, 48, 48, 48, 48, 48, 48, 48, 48, 48, 48, 48, 48, 48, 48, 48, 48, 48]⟩ rfl (by unfold isHx; decide +kernel)
  rwa [show vrow ⟨#[48, 57, 48, 48, 48, 48, 48, 48, 48, 48, 48, 48, 48, 48, 48, 48, 48, 48, 48, 48, 48, 48, 48, 48, 48, 48, 48, 48, 48, 48, 48, 48, 48, 48, 48, 48, 48, 48, 48, 48, 48, 48, 48, 48, 48, 48, 48, 48, 48, 48, 48, 48, 48, 48, 48, 48, 48, 48, 48, 48, 48, 48, 48, 48]⟩ 32 = kb 9 by kernel_rfl] at h
theorem vkey6 : KeyOf (kb 9) 9 := kb_key _ (by decide) (by decide)
theorem vstr7 : Gives 9 #[.string ⟨#[52, 50, 50, 99, 56, 101, 55, 97, 54, 50, 50, 55, 100, 55, 98, 99, 97, 49, 51, 53, 48, 98, 51, 101, 50, 98, 98, 55, 50, 55, 57, 102, 55, 56, 57, 55, 98, 56, 55, 98, 98, 54, 56, 53, 52, 98, 55, 56, 51, 99, 54, 48, 101, 56, 48, 51, 49, 49, 97, 101, 51, 48, 55, 57]⟩] (.agg (kb 54815864700279561125610391355931320566748822376190344121911385527384361806914)) := by
  have h := vector_walk ⟨#[52, 50, 50, 99, 56, 101, 55, 97, 54, 50, 50, 55, 100, 55, 98, 99, 97, 49, 51, 53, 48, 98, 51, 101, 50, 98, 98, 55, 50, 55, 57, 102, 55, 56, 57, 55, 98, 56, 55, 98, 98, 54, 56, 53, 52, 98, 55, 56, 51, 99, 54, 48, 101, 56, 48, 51, 49, 49, 97, 101, 51, 48, 55, 57]⟩ rfl (by unfold isHx; decide +kernel)
  rwa [show vrow ⟨#[52, 50, 50, 99, 56, 101, 55, 97, 54, 50, 50, 55, 100, 55, 98, 99, 97, 49, 51, 53, 48, 98, 51, 101, 50, 98, 98, 55, 50, 55, 57, 102, 55, 56, 57, 55, 98, 56, 55, 98, 98, 54, 56, 53, 52, 98, 55, 56, 51, 99, 54, 48, 101, 56, 48, 51, 49, 49, 97, 101, 51, 48, 55, 57]⟩ 32 = kb 54815864700279561125610391355931320566748822376190344121911385527384361806914 by kernel_rfl] at h
theorem vkey7 : KeyOf (kb 54815864700279561125610391355931320566748822376190344121911385527384361806914) 54815864700279561125610391355931320566748822376190344121911385527384361806914 := kb_key _ (by decide) (by decide)

set_option maxRecDepth 100000 in
set_option maxHeartbeats 8000000 in
theorem vectors_any : Gives4 3 #[] (.bool true) := by
  have heq : ∀ (q : Int) W, (Op.equalIn 10000 23 (.agg (kb q)) (.agg (kb q))).run Tryd.prog W = .ok true W := fun q W => by
    have e : kb q = #[.int .u8 (byt q 0), .int .u8 (byt q 1), .int .u8 (byt q 2), .int .u8 (byt q 3), .int .u8 (byt q 4), .int .u8 (byt q 5), .int .u8 (byt q 6), .int .u8 (byt q 7), .int .u8 (byt q 8), .int .u8 (byt q 9), .int .u8 (byt q 10), .int .u8 (byt q 11), .int .u8 (byt q 12), .int .u8 (byt q 13), .int .u8 (byt q 14), .int .u8 (byt q 15), .int .u8 (byt q 16), .int .u8 (byt q 17), .int .u8 (byt q 18), .int .u8 (byt q 19), .int .u8 (byt q 20), .int .u8 (byt q 21), .int .u8 (byt q 22), .int .u8 (byt q 23), .int .u8 (byt q 24), .int .u8 (byt q 25), .int .u8 (byt q 26), .int .u8 (byt q 27), .int .u8 (byt q 28), .int .u8 (byt q 29), .int .u8 (byt q 30), .int .u8 (byt q 31)] := rfl
    rw [e, keys_equal]; simp
  have c0 := vstr0
  have q0 := vkey0
  have c1 := vstr1
  have q1 := vkey1
  have c2 := vstr2
  have q2 := vkey2
  have c3 := vstr3
  have q3 := vkey3
  have c4 := vstr4
  have q4 := vkey4
  have c5 := vstr5
  have q5 := vkey5
  have c6 := vstr6
  have q6 := vkey6
  have c7 := vstr7
  have q7 := vkey7
  have s1 := a_scale q0 q1
  have s2 := a_scale q3 q4
  have s3 := a_public q6
  rw [vec1] at s1
  rw [vec2] at s2
  rw [vec3] at s3
  have hz := key_zero
  generalize (88925887110773138616681052956207043583107764937498542285260013040410376226469 : Int) = N0 at *
  generalize (34426434033919594451155107781188821651316167215306631574996226621102155684838 : Int) = N1 at *
  generalize (37325765543539916631701301279660700968428932651319597985674090122993663859395 : Int) = N2 at *
  generalize (6208869506345768410841466502331656783811117849709423753404619313487976949323 : Int) = N3 at *
  generalize (66779901969842027605876251890954603246052331132842480964984187926304357556709 : Int) = N4 at *
  generalize (39566196721700740701373067725336211924689549479508623342842086701180565506965 : Int) = N5 at *
  generalize (9 : Int) = N6 at *
  generalize (54815864700279561125610391355931320566748822376190344121911385527384361806914 : Int) = N7 at *
  intro w hF
  have hw : Below w.heap.size w w := Below.refl _ _
  have f4 := hF
  have hz0 := hF.1
  go_enter Tryd.func3, Tryd.ntmps3
  go_wp2_with (first | fail)
  refine (c0.at _).mono ?_
  rintro e w1 ⟨rfl, hb⟩
  replace hw := Below.after hw hb
  replace f4 := f4.below hb
  clear hb
  go_wp2_with (first | (refine wpList_store_row rfl 23 _ _ rfl (w1.heap.size) (kb N0) rfl rfl 23 #[.int .u8 0, .int .u8 0, .int .u8 0, .int .u8 0, .int .u8 0, .int .u8 0, .int .u8 0, .int .u8 0, .int .u8 0, .int .u8 0, .int .u8 0, .int .u8 0, .int .u8 0, .int .u8 0, .int .u8 0, .int .u8 0, .int .u8 0, .int .u8 0, .int .u8 0, .int .u8 0, .int .u8 0, .int .u8 0, .int .u8 0, .int .u8 0, .int .u8 0, .int .u8 0, .int .u8 0, .int .u8 0, .int .u8 0, .int .u8 0, .int .u8 0, .int .u8 0] (hp1_0 w1 _) q0.info (hz.size.trans q0.size.symm) q0.one ?_; rw [setRow_alloc_new _ _ _ _ _ _ (by simp)]) | (refine wpList_load_want rfl 23 _ rfl (w1.heap.size) rfl 23 (kb N0) (0, 0) _ (hp1_0 w1 _) Tryd.underlying23 rfl q0.info ?_) | fail)
  have rl1 : (w1.alloc (.cells (kb N0) 23)).heap[w1.heap.size]? = some (.cells (kb N0) 23 (0, 0)) := hp1_0 w1 _
  have hb : Below w1.heap.size w1 (w1.alloc (.cells (kb N0) 23)) := ((Below.refl _ _).alloc (Nat.le_refl _) _)
  generalize (w1.alloc (.cells (kb N0) 23)) = wa at *
  have ygk := hw.size
  have zgk := f4.1
  replace hw := Below.after hw hb
  replace f4 := f4.below hb
  clear hb
  generalize w1.heap.size = gk at *
  clear w1
  refine (c1.at _).mono ?_
  rintro e w2 ⟨rfl, hb⟩
  replace rl1 := keep hb rl1
  replace hw := Below.after hw hb
  replace f4 := f4.below hb
  clear hb
  go_wp2_with (first | (refine wpList_store_row rfl 23 _ _ rfl (w2.heap.size) (kb N1) rfl rfl 23 #[.int .u8 0, .int .u8 0, .int .u8 0, .int .u8 0, .int .u8 0, .int .u8 0, .int .u8 0, .int .u8 0, .int .u8 0, .int .u8 0, .int .u8 0, .int .u8 0, .int .u8 0, .int .u8 0, .int .u8 0, .int .u8 0, .int .u8 0, .int .u8 0, .int .u8 0, .int .u8 0, .int .u8 0, .int .u8 0, .int .u8 0, .int .u8 0, .int .u8 0, .int .u8 0, .int .u8 0, .int .u8 0, .int .u8 0, .int .u8 0, .int .u8 0, .int .u8 0] (hp1_0 w2 _) q1.info (hz.size.trans q1.size.symm) q1.one ?_; rw [setRow_alloc_new _ _ _ _ _ _ (by simp)]) | (refine wpList_load_want rfl 23 _ rfl (w2.heap.size) rfl 23 (kb N1) (0, 0) _ (hp1_0 w2 _) Tryd.underlying23 rfl q1.info ?_) | (refine wpList_load_want rfl 23 _ rfl (gk) rfl 23 (kb N0) (0, 0) _ (keep ((Below.refl _ _).alloc (Nat.le_refl _) _) rl1) Tryd.underlying23 rfl q0.info ?_) | fail)
  have rl2 : (w2.alloc (.cells (kb N1) 23)).heap[w2.heap.size]? = some (.cells (kb N1) 23 (0, 0)) := hp1_0 w2 _
  have hb : Below w2.heap.size w2 (w2.alloc (.cells (kb N1) 23)) := ((Below.refl _ _).alloc (Nat.le_refl _) _)
  generalize (w2.alloc (.cells (kb N1) 23)) = wb at *
  have ygu_0 := lt_of_row rl1
  have ygu := hw.size
  have zgu := f4.1
  replace rl1 := keep hb rl1
  replace hw := Below.after hw hb
  replace f4 := f4.below hb
  clear hb
  generalize w2.heap.size = gu at *
  clear w2
  refine (s1.at f4).mono ?_
  rintro e w3 ⟨rfl, hb⟩
  replace rl1 := keep hb rl1
  replace rl2 := keep hb rl2
  replace hw := Below.after hw hb
  replace f4 := f4.below hb
  clear hb
  go_wp2_with (first | (refine wpList_load_want rfl 23 _ rfl (gk) rfl 23 (kb N0) (0, 0) _ rl1 Tryd.underlying23 rfl q0.info ?_) | (refine wpList_load_want rfl 23 _ rfl (gu) rfl 23 (kb N1) (0, 0) _ rl2 Tryd.underlying23 rfl q1.info ?_) | fail)
  refine (c2.at _).mono ?_
  rintro e w4 ⟨rfl, hb⟩
  replace rl1 := keep hb rl1
  replace rl2 := keep hb rl2
  replace hw := Below.after hw hb
  replace f4 := f4.below hb
  clear hb
  go_wp2_with (first | (refine wpList_load_want rfl 23 _ rfl (gk) rfl 23 (kb N0) (0, 0) _ rl1 Tryd.underlying23 rfl q0.info ?_) | (refine wpList_load_want rfl 23 _ rfl (gu) rfl 23 (kb N1) (0, 0) _ rl2 Tryd.underlying23 rfl q1.info ?_) | fail)
  refine (c3.at _).mono ?_
  rintro e w5 ⟨rfl, hb⟩
  replace rl1 := keep hb rl1
  replace rl2 := keep hb rl2
  replace hw := Below.after hw hb
  replace f4 := f4.below hb
  clear hb
  go_wp2_with (first | (refine wpList_store_row rfl 23 _ _ rfl (gk) (kb N3) rfl rfl 23 _ rl1 q3.info (q0.size.trans q3.size.symm) q3.one ?_) | (refine wpList_load_want rfl 23 _ rfl (gk) rfl 23 (kb N3) (0, 0) _ (setRow_heap w5 (gk) _ (kb N3) _ _ rl1) Tryd.underlying23 rfl q3.info ?_) | (refine wpList_load_want rfl 23 _ rfl (gu) rfl 23 (kb N1) (0, 0) _ ((setRow_other w5 (gk) (gu) (kb N3) (by omega)).trans rl2) Tryd.underlying23 rfl q1.info ?_) | fail)
  replace rl2 := (setRow_other w5 (gk) (gu) (kb N3) (by first | assumption | omega)).trans rl2
  replace rl1 := setRow_heap w5 (gk) _ (kb N3) _ _ rl1
  replace hw := below_setRow hw (show w.heap.size ≤ gk by first | assumption | omega) (kb N3)
  replace f4 := f4.setRow (show 0 < gk by first | assumption | omega) (kb N3)
  generalize w5.setRow (gk) (kb N3) = ws1 at *
  refine (c4.at _).mono ?_
  rintro e w6 ⟨rfl, hb⟩
  replace rl1 := keep hb rl1
  replace rl2 := keep hb rl2
  replace hw := Below.after hw hb
  replace f4 := f4.below hb
  clear hb
  go_wp2_with (first | (refine wpList_store_row rfl 23 _ _ rfl (gu) (kb N4) rfl rfl 23 _ rl2 q4.info (q1.size.trans q4.size.symm) q4.one ?_) | (refine wpList_load_want rfl 23 _ rfl (gk) rfl 23 (kb N3) (0, 0) _ ((setRow_other w6 (gu) (gk) (kb N4) (by omega)).trans rl1) Tryd.underlying23 rfl q3.info ?_) | (refine wpList_load_want rfl 23 _ rfl (gu) rfl 23 (kb N4) (0, 0) _ (setRow_heap w6 (gu) _ (kb N4) _ _ rl2) Tryd.underlying23 rfl q4.info ?_) | fail)
  replace rl1 := (setRow_other w6 (gu) (gk) (kb N4) (by first | assumption | omega)).trans rl1
  replace rl2 := setRow_heap w6 (gu) _ (kb N4) _ _ rl2
  replace hw := below_setRow hw (show w.heap.size ≤ gu by first | assumption | omega) (kb N4)
  replace f4 := f4.setRow (show 0 < gu by first | assumption | omega) (kb N4)
  generalize w6.setRow (gu) (kb N4) = ws2 at *
  refine (s2.at f4).mono ?_
  rintro e w7 ⟨rfl, hb⟩
  replace rl1 := keep hb rl1
  replace rl2 := keep hb rl2
  replace hw := Below.after hw hb
  replace f4 := f4.below hb
  clear hb
  go_wp2_with (first | (refine wpList_load_want rfl 23 _ rfl (gk) rfl 23 (kb N3) (0, 0) _ rl1 Tryd.underlying23 rfl q3.info ?_) | (refine wpList_load_want rfl 23 _ rfl (gu) rfl 23 (kb N4) (0, 0) _ rl2 Tryd.underlying23 rfl q4.info ?_) | fail)
  refine (c5.at _).mono ?_
  rintro e w8 ⟨rfl, hb⟩
  replace rl1 := keep hb rl1
  replace rl2 := keep hb rl2
  replace hw := Below.after hw hb
  replace f4 := f4.below hb
  clear hb
  go_wp2_with (first | (refine wpList_load_want rfl 23 _ rfl (gk) rfl 23 (kb N3) (0, 0) _ rl1 Tryd.underlying23 rfl q3.info ?_) | (refine wpList_load_want rfl 23 _ rfl (gu) rfl 23 (kb N4) (0, 0) _ rl2 Tryd.underlying23 rfl q4.info ?_) | fail)
  refine (c6.at _).mono ?_
  rintro e w9 ⟨rfl, hb⟩
  replace rl1 := keep hb rl1
  replace rl2 := keep hb rl2
  replace hw := Below.after hw hb
  replace f4 := f4.below hb
  clear hb
  go_wp2_with (first | (refine wpList_store_row rfl 23 _ _ rfl (gk) (kb N6) rfl rfl 23 _ rl1 q6.info (q3.size.trans q6.size.symm) q6.one ?_) | (refine wpList_load_want rfl 23 _ rfl (gk) rfl 23 (kb N6) (0, 0) _ (setRow_heap w9 (gk) _ (kb N6) _ _ rl1) Tryd.underlying23 rfl q6.info ?_) | (refine wpList_load_want rfl 23 _ rfl (gu) rfl 23 (kb N4) (0, 0) _ ((setRow_other w9 (gk) (gu) (kb N6) (by omega)).trans rl2) Tryd.underlying23 rfl q4.info ?_) | fail)
  replace rl2 := (setRow_other w9 (gk) (gu) (kb N6) (by first | assumption | omega)).trans rl2
  replace rl1 := setRow_heap w9 (gk) _ (kb N6) _ _ rl1
  replace hw := below_setRow hw (show w.heap.size ≤ gk by first | assumption | omega) (kb N6)
  replace f4 := f4.setRow (show 0 < gk by first | assumption | omega) (kb N6)
  generalize w9.setRow (gk) (kb N6) = ws3 at *
  refine (s3.at f4).mono ?_
  rintro e w10 ⟨rfl, hb⟩
  replace rl1 := keep hb rl1
  replace rl2 := keep hb rl2
  replace hw := Below.after hw hb
  replace f4 := f4.below hb
  clear hb
  go_wp2_with (first | (refine wpList_load_want rfl 23 _ rfl (gk) rfl 23 (kb N6) (0, 0) _ rl1 Tryd.underlying23 rfl q6.info ?_) | (refine wpList_load_want rfl 23 _ rfl (gu) rfl 23 (kb N4) (0, 0) _ rl2 Tryd.underlying23 rfl q4.info ?_) | fail)
  refine (c7.at _).mono ?_
  rintro e w11 ⟨rfl, hb⟩
  replace rl1 := keep hb rl1
  replace rl2 := keep hb rl2
  replace hw := Below.after hw hb
  replace f4 := f4.below hb
  clear hb
  go_wp2_with (first | fail)
  go_ret
  exact ⟨rfl, hw⟩

end Go.Proofs.YtdimjlbnjhopgaaDoor

