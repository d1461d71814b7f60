import Derived.Test.YtamieopjigjfiabDoorProg
import Derived.WalkKit
import Derived.WalkSpells
import Derived.WalkLawsBesides
import Derived.Lib.QuietBelow
import Derived.BigQuiet
import Derived.Test.YtamieopjigjfiabDoorKa
import Derived.Test.YtamieopjigjfiabDoorSa
namespace Go.Proofs.YtamieopjigjfiabDoor
set_option maxRecDepth 100000
open Go Go.RowKit Go.Sort
attribute [local go_sem] setCell_drewN alloc_drewN

/-- A list of sixty-four words is a block's. -/
def ckW (b L : List Int) : Bool := (List.range 64).all fun t => decide (L.getD t 0 = if t < 16 then wrd b t else (lo1 (L.getD (t - 2) 0) + L.getD (t - 7) 0 + lo0 (L.getD (t - 15) 0) + L.getD (t - 16) 0) % 4294967296)
theorem wds_of {b L : List Int} (h : ckW b L = true) : ∀ t, t < 64 → wds b t = L.getD t 0 := by
  have hc : ∀ t, t < 64 → L.getD t 0 = if t < 16 then wrd b t else (lo1 (L.getD (t - 2) 0) + L.getD (t - 7) 0 + lo0 (L.getD (t - 15) 0) + L.getD (t - 16) 0) % 4294967296 := fun t ht => of_decide_eq_true (List.all_eq_true.1 h t (List.mem_range.2 ht))
  intro t
  induction t using Nat.strongRecOn with
  | ind t ih =>
    intro ht
    rw [hc t ht]
    by_cases h16 : t < 16
    · rw [wds_lo b h16, if_pos h16]
    · rw [wds_hi b h16, if_neg h16, ih (t - 2) (by omega) (by omega), ih (t - 7) (by omega) (by omega), ih (t - 15) (by omega) (by omega), ih (t - 16) (by omega) (by omega)]
theorem rs_congr {h : List Int} {W V : Nat → Int} : ∀ t, (∀ j, j < t → W j = V j) → rs h W t = rs h V t
  | 0, _ => rfl
  | t + 1, e => by rw [rs, rs, rs_congr t (fun j hj => e j (by omega)), e t (by omega)]
theorem blk_of {h b L v : List Int} (hw : ckW b L = true) (hs : sums h (rs h (fun t => L.getD t 0) 64).list 8 = v) : blk h b = v := by
  rw [blk, rs_congr 64 (fun j hj => wds_of hw j hj), hs]
theorem sum_cert (m L0 L1 h1 h2 out : List Int) (q : (m ++ padL m.length).length / 64 = 2) (w0 : ckW (chunk (m ++ padL m.length) 0) L0 = true) (s0 : sums sl (rs sl (fun t => L0.getD t 0) 64).list 8 = h1) (w1 : ckW (chunk (m ++ padL m.length) 1) L1 = true) (s1 : sums h1 (rs h1 (fun t => L1.getD t 0) 64).list 8 = h2) (o : byts h2 = out) : sumL m = out := by
  rw [sumL, sumW, q, fol, fol, fol, blk_of w0 s0, blk_of w1 s1, o]
theorem hm_cert {key bs D out : List Int} (h1 : sumL (kin key ++ bs) = D) (h2 : sumL (kout key ++ D) = out) : hm key bs = out := by
  rw [hm, h1, h2]
set_option maxRecDepth 100000 in
theorem l_t1 : hm (zr 32) (ps9 ++ [1]) = [75, 62, 101, 127, 98, 202, 115, 70, 177, 200, 234, 84, 51, 220, 114, 192, 147, 211, 30, 221, 146, 206, 33, 141, 250, 23, 26, 16, 187, 127, 32, 247] := hm_cert (sum_cert (kin (zr 32) ++ (ps9 ++ [1])) [909522486, 909522486, 909522486, 909522486, 909522486, 909522486, 909522486, 909522486, 909522486, 909522486, 909522486, 909522486, 909522486, 909522486, 909522486, 909522486, 828629987, 828629987, 3776264696, 3776264696, 2408496505, 2408496505, 3703810348, 3622917849, 4031120979, 2146747560, 3260165887, 2815092747, 4286359742, 592337967, 3066442673, 1154308805, 3381820581, 2642411924, 2658340976, 790776156, 3936322321, 1548620120, 1346974071, 2760948351, 3128084265, 3576817954, 3867676740, 2754198265, 855811989, 1459331653, 925716054, 1917319745, 3902710584, 3177888799, 4165673166, 1242241643, 1967333460, 718933646, 2081681304, 3384580195, 658678898, 1033513033, 3234119599, 4034058430, 2396173866, 61000443, 2165945604, 2579069648] [1885435756, 544433505, 1812037632, 0, 0, 0, 0, 0, 0, 0, 0, 0, 0, 0, 0, 592, 2407021030, 2402127201, 2280507485, 2000633104, 1560578169, 2033711799, 3575957072, 2441828393, 2332345960, 1327718527, 1931137763, 958926630, 2892565521, 3684587522, 3653325425, 1153756787, 327142254, 3340001125, 3208736700, 2736568062, 1914849148, 2870768631, 474943070, 1319616264, 3898801473, 3004762850, 2148088595, 3307059407, 2601874346, 257204797, 360559184, 521494848, 4206231652, 2569462944, 150568845, 1418940831, 4168376659, 4289364762, 4004362496, 2092722742, 2128831325, 3994762840, 2610016854, 3509397626, 3716345968, 4246347175, 2479338370, 1108057831] [4099202733, 2535792975, 2430268064, 3742509290, 1692759311, 2744271233, 2185925419, 4175449650] [3070989850, 2124400110, 314060448, 3853648147, 615344726, 3064754217, 1078478922, 2047411026] [183, 11, 150, 26, 126, 159, 197, 238, 18, 184, 46, 160, 229, 178, 1, 19, 36, 173, 106, 86, 182, 172, 112, 41, 64, 72, 72, 74, 122, 9, 3, 82] (by decide +kernel) (by decide +kernel) (by decide +kernel) (by decide +kernel) (by decide +kernel) (by decide +kernel)) (sum_cert (kout (zr 32) ++ [183, 11, 150, 26, 126, 159, 197, 238, 18, 184, 46, 160, 229, 178, 1, 19, 36, 173, 106, 86, 182, 172, 112, 41, 64, 72, 72, 74, 122, 9, 3, 82]) [1549556828, 1549556828, 1549556828, 1549556828, 1549556828, 1549556828, 1549556828, 1549556828, 1549556828, 1549556828, 1549556828, 1549556828, 1549556828, 1549556828, 1549556828, 1549556828, 42962830, 42962830, 2467512273, 2467512273, 1427315712, 1427315712, 1249001928, 4037375226, 1809826037, 2826030956, 2886905781, 872774085, 1469776800, 1590296612, 3537354104, 133472730, 3554710565, 4062847664, 2657847936, 216629829, 891106106, 586986791, 1227446114, 2824269971, 2665413624, 3263572534, 775620046, 3292793133, 542824600, 840372110, 1326296352, 2178981808, 4036745216, 1824838472, 3842077899, 1596028657, 1666037942, 2687211640, 3302866841, 3022413000, 1930114701, 3862987069, 3425946126, 4202727519, 918644712, 1850158742, 4178356858, 1365291507] [3070989850, 2124400110, 314060448, 3853648147, 615344726, 3064754217, 1078478922, 2047411026, 2147483648, 0, 0, 0, 0, 0, 0, 768, 3647008427, 3394909973, 950590355, 894847667, 4111857435, 826942279, 1895676301, 3123789313, 3057999908, 4053221796, 1368500069, 1039170116, 412387802, 2741214949, 2428610785, 3925887662, 1801157243, 1604619195, 997067909, 2000054745, 1626379221, 913520012, 305680301, 699647243, 3419048953, 1887186701, 1859002428, 3333510496, 1537058005, 4039874794, 1939604224, 2588012206, 3178858958, 659623260, 512767355, 4228578576, 1100153500, 380426667, 1873797085, 656623656, 643214538, 1496352803, 2060605760, 641318092, 128146755, 1489385212, 2510188466, 2264309730] [3548727311, 2059101303, 935970104, 1574446183, 2382641778, 1966355632, 3736610840, 907888038] [1262380415, 1657434950, 2982734420, 870085312, 2480086749, 2462982541, 4195818000, 3145670903] [75, 62, 101, 127, 98, 202, 115, 70, 177, 200, 234, 84, 51, 220, 114, 192, 147, 211, 30, 221, 146, 206, 33, 141, 250, 23, 26, 16, 187, 127, 32, 247] (by decide +kernel) (by decide +kernel) (by decide +kernel) (by decide +kernel) (by decide +kernel) (by decide +kernel))
/-- A list of 240 bytes holds a key's round keys. -/
def ckK (key L : List B) : Bool := (List.range 60).all fun n => decide (colOf L n = colK key L n)
theorem put4_getD (l : List B) (n : Nat) (x : B × B × B × B) (hn : 4 * n + 3 < l.length) (j : Nat) : (put4 l n x).getD j 0#8 = if j = 4 * n then x.1 else if j = 4 * n + 1 then x.2.1 else if j = 4 * n + 2 then x.2.2.1 else if j = 4 * n + 3 then x.2.2.2 else l.getD j 0#8 := by
  have a0 : 4 * n < l.length := by omega
  have a1 : 4 * n + 1 < l.length := by omega
  have a2 : 4 * n + 2 < l.length := by omega
  simp only [put4, List.getD_eq_getElem?_getD, List.getElem?_set, List.length_set]
  by_cases h3 : 4 * n + 3 = j
  · subst h3; simp [hn]
  by_cases h2 : 4 * n + 2 = j
  · subst h2; simp [a2]
  by_cases h1 : 4 * n + 1 = j
  · subst h1; simp [a1]
  by_cases h0 : 4 * n = j
  · subst h0; simp [a0]
  simp only [h0, h1, h2, h3, if_false, Ne.symm h0, Ne.symm h1, Ne.symm h2, Ne.symm h3]
theorem ks_of {key L : List B} (h : ckK key L = true) (n : Nat) (hn : n ≤ 60) : ∀ j, j < 4 * n → (ks key n).getD j 0#8 = L.getD j 0#8 := by
  have hc : ∀ n, n < 60 → colOf L n = colK key L n := fun n hn => of_decide_eq_true (List.all_eq_true.1 h n (List.mem_range.2 hn))
  induction n with
  | zero => intro j hj; omega
  | succ n ih =>
    have ih := ih (by omega)
    have e : ∀ i, i < n → colOf (ks key n) i = colOf L i := fun i hi => by
      simp only [colOf]
      rw [ih (4 * i) (by omega), ih (4 * i + 1) (by omega), ih (4 * i + 2) (by omega), ih (4 * i + 3) (by omega)]
    have ec : colK key (ks key n) n = colOf L n := by
      rw [hc n (by omega), colK, colK]
      by_cases h8 : n < 8
      · rw [if_pos h8, if_pos h8]
      · rw [if_neg h8, if_neg h8, e (n - 8) (by omega), e (n - 1) (by omega)]
    intro j hj
    rw [ks, ec, put4_getD _ _ _ (by rw [ks_len]; omega)]
    by_cases h0 : j = 4 * n
    · subst h0; simp [colOf]
    by_cases h1 : j = 4 * n + 1
    · subst h1; simp [colOf]
    by_cases h2 : j = 4 * n + 2
    · subst h2; simp [colOf]
    by_cases h3 : j = 4 * n + 3
    · subst h3; simp [colOf]
    rw [if_neg h0, if_neg h1, if_neg h2, if_neg h3]
    exact ih j (by omega)
theorem ks_cert {key L : List B} (h : ckK key L = true) (hl : L.length = 240) : ks key 60 = L := by
  apply List.ext_getElem (by rw [ks_len, hl])
  intro j h1 h2
  have := ks_of h 60 (Nat.le_refl _) j (by rw [ks_len] at h1; omega)
  rw [List.getD_eq_getElem?_getD, List.getD_eq_getElem?_getD, List.getElem?_eq_getElem h1, List.getElem?_eq_getElem h2] at this
  exact this
def lvC : List B := [75#8, 62#8, 101#8, 127#8, 98#8, 202#8, 115#8, 70#8, 177#8, 200#8, 234#8, 84#8, 51#8, 220#8, 114#8, 192#8, 147#8, 211#8, 30#8, 221#8, 146#8, 206#8, 33#8, 141#8, 250#8, 23#8, 26#8, 16#8, 187#8, 127#8, 32#8, 247#8]
def lvL : List B := [75#8, 62#8, 101#8, 127#8, 98#8, 202#8, 115#8, 70#8, 177#8, 200#8, 234#8, 84#8, 51#8, 220#8, 114#8, 192#8, 147#8, 211#8, 30#8, 221#8, 146#8, 206#8, 33#8, 141#8, 250#8, 23#8, 26#8, 16#8, 187#8, 127#8, 32#8, 247#8, 152#8, 137#8, 13#8, 149#8, 250#8, 67#8, 126#8, 211#8, 75#8, 139#8, 148#8, 135#8, 120#8, 87#8, 230#8, 71#8, 47#8, 136#8, 144#8, 125#8, 189#8, 70#8, 177#8, 240#8, 71#8, 81#8, 171#8, 224#8, 252#8, 46#8, 139#8, 23#8, 171#8, 180#8, 253#8, 37#8, 81#8, 247#8, 131#8, 246#8, 26#8, 124#8, 23#8, 113#8, 98#8, 43#8, 241#8, 54#8, 133#8, 121#8, 49#8, 120#8, 56#8, 63#8, 128#8, 136#8, 127#8, 110#8, 43#8, 104#8, 131#8, 64#8, 160#8, 127#8, 166#8, 84#8, 47#8, 201#8, 247#8, 163#8, 172#8, 63#8, 237#8, 223#8, 187#8, 78#8, 143#8, 244#8, 74#8, 120#8, 246#8, 198#8, 231#8, 196#8, 206#8, 249#8, 103#8, 76#8, 177#8, 151#8, 76#8, 36#8, 50#8, 215#8, 236#8, 91#8, 160#8, 154#8, 22#8, 234#8, 87#8, 57#8, 186#8, 213#8, 186#8, 230#8, 1#8, 155#8, 53#8, 18#8, 75#8, 227#8, 96#8, 15#8, 84#8, 213#8, 174#8, 246#8, 51#8, 153#8, 31#8, 97#8, 127#8, 189#8, 45#8, 182#8, 147#8, 230#8, 254#8, 70#8, 152#8, 50#8, 169#8, 127#8, 34#8, 231#8, 19#8, 153#8, 35#8, 124#8, 38#8, 139#8, 104#8, 159#8, 151#8, 50#8, 17#8, 14#8, 57#8, 196#8, 34#8, 151#8, 38#8, 165#8, 93#8, 42#8, 11#8, 19#8, 206#8, 204#8, 163#8, 205#8, 211#8, 25#8, 10#8, 178#8, 241#8, 254#8, 25#8, 43#8, 210#8, 130#8, 63#8, 160#8, 186#8, 29#8, 226#8, 210#8, 229#8, 170#8, 219#8, 22#8, 199#8, 61#8, 253#8, 179#8, 154#8, 23#8, 246#8, 160#8, 84#8, 219#8, 3#8, 237#8, 106#8, 91#8, 9#8, 95#8, 155#8, 165#8, 16#8, 116#8, 73#8, 39#8, 47#8, 212#8, 243#8, 58#8]
def lvZ : List B := List.replicate 16 0#8
def lvK : List B := List.replicate 32 0#8
theorem lv_ck : ck lvK = lvC := by
  have h : bl (ck lvK) = bl lvC := by
    rw [bl_ck]
    have e0 : bl lvK = zr 32 := bl_zr 32
    rw [e0]
    have e1 := xpd_at (zr 32) ps9 0 64 (by decide)
    rw [Nat.mul_zero, List.drop_zero] at e1
    rw [e1]
    show hm (zr 32) (tp (zr 32) ps9 0 ++ (ps9 ++ [(0 : Int) + 1])) = _
    exact l_t1
  exact bl_inj h
set_option maxRecDepth 100000 in
theorem lv_ks : ks lvC 60 = lvL := ks_cert (by decide +kernel) (by decide +kernel)
theorem lv_r0 : rnd5 lvL lvZ 0 = [75#8, 62#8, 101#8, 127#8, 98#8, 202#8, 115#8, 70#8, 177#8, 200#8, 234#8, 84#8, 51#8, 220#8, 114#8, 192#8] := by
  rw [rnd5]; decide +kernel
theorem lv_r1 : rnd5 lvL lvZ 1 = [79#8, 160#8, 25#8, 143#8, 108#8, 189#8, 142#8, 127#8, 247#8, 69#8, 32#8, 44#8, 68#8, 105#8, 52#8, 212#8] := by
  rw [rnd5, lv_r0]; decide +kernel
theorem lv_r2 : rnd5 lvL lvZ 2 = [250#8, 115#8, 94#8, 95#8, 131#8, 148#8, 229#8, 179#8, 141#8, 191#8, 219#8, 173#8, 29#8, 205#8, 188#8, 113#8] := by
  rw [rnd5, lv_r1]; decide +kernel
theorem lv_r3 : rnd5 lvL lvZ 3 = [9#8, 146#8, 8#8, 204#8, 204#8, 218#8, 213#8, 55#8, 20#8, 232#8, 76#8, 56#8, 105#8, 106#8, 173#8, 135#8] := by
  rw [rnd5, lv_r2]; decide +kernel
theorem lv_r4 : rnd5 lvL lvZ 4 = [110#8, 119#8, 192#8, 118#8, 175#8, 126#8, 191#8, 179#8, 89#8, 72#8, 58#8, 121#8, 94#8, 78#8, 72#8, 100#8] := by
  rw [rnd5, lv_r3]; decide +kernel
theorem lv_r5 : rnd5 lvL lvZ 5 = [109#8, 195#8, 131#8, 55#8, 86#8, 44#8, 71#8, 115#8, 84#8, 67#8, 23#8, 97#8, 137#8, 71#8, 220#8, 29#8] := by
  rw [rnd5, lv_r4]; decide +kernel
theorem lv_r6 : rnd5 lvL lvZ 6 = [25#8, 37#8, 110#8, 95#8, 188#8, 45#8, 165#8, 68#8, 53#8, 4#8, 114#8, 103#8, 231#8, 27#8, 178#8, 193#8] := by
  rw [rnd5, lv_r5]; decide +kernel
theorem lv_r7 : rnd5 lvL lvZ 7 = [14#8, 1#8, 227#8, 203#8, 241#8, 245#8, 212#8, 163#8, 232#8, 229#8, 125#8, 131#8, 195#8, 178#8, 223#8, 212#8] := by
  rw [rnd5, lv_r6]; decide +kernel
theorem lv_r8 : rnd5 lvL lvZ 8 = [107#8, 180#8, 102#8, 133#8, 255#8, 151#8, 196#8, 84#8, 213#8, 42#8, 145#8, 31#8, 73#8, 240#8, 166#8, 102#8] := by
  rw [rnd5, lv_r7]; decide +kernel
theorem lv_r9 : rnd5 lvL lvZ 9 = [175#8, 208#8, 239#8, 59#8, 5#8, 202#8, 42#8, 87#8, 133#8, 20#8, 246#8, 71#8, 11#8, 104#8, 70#8, 161#8] := by
  rw [rnd5, lv_r8]; decide +kernel
theorem lv_r10 : rnd5 lvL lvZ 10 = [224#8, 35#8, 71#8, 235#8, 210#8, 247#8, 58#8, 37#8, 109#8, 165#8, 185#8, 242#8, 165#8, 212#8, 25#8, 44#8] := by
  rw [rnd5, lv_r9]; decide +kernel
theorem lv_r11 : rnd5 lvL lvZ 11 = [209#8, 136#8, 167#8, 234#8, 127#8, 243#8, 2#8, 72#8, 25#8, 205#8, 51#8, 248#8, 100#8, 75#8, 117#8, 105#8] := by
  rw [rnd5, lv_r10]; decide +kernel
theorem lv_r12 : rnd5 lvL lvZ 12 = [242#8, 78#8, 109#8, 124#8, 115#8, 58#8, 45#8, 166#8, 106#8, 52#8, 251#8, 174#8, 216#8, 168#8, 16#8, 233#8] := by
  rw [rnd5, lv_r11]; decide +kernel
theorem lv_r13 : rnd5 lvL lvZ 13 = [97#8, 79#8, 208#8, 153#8, 44#8, 252#8, 239#8, 69#8, 188#8, 78#8, 78#8, 167#8, 121#8, 8#8, 134#8, 92#8] := by
  rw [rnd5, lv_r12]; decide +kernel
theorem lv_enc : gb (enc lvL lvZ) 0 = 236#8 := by
  rw [enc, lv_r13]; decide +kernel
def lvH : List B := [104#8, 101#8, 108#8, 108#8, 111#8]
theorem lv_not : cfx lvK lvZ lvH ≠ lvH := by
  intro h
  have h1 := congrArg (fun l => gb l 0) h
  simp only [cfx] at h1
  rw [cry_get _ _ _ _ _ (by decide), lv_ck, lv_ks, sby] at h1
  rw [show (0 + 0) / 16 = 0 from rfl, show (0 + 0) % 16 = 0 from rfl, ctr_zero lvZ (by decide), lv_enc] at h1
  revert h1
  decide

end Go.Proofs.YtamieopjigjfiabDoor
