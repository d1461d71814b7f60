import Derived.Test.YtajaiiidafkijaaDoorPSga
import Derived.WalkKit
import Derived.Deep.Cut
namespace Go.Proofs.YtajaiiidafkijaaDoor.Wi
set_option maxRecDepth 100000
open Go Go.RowKit Go.Sort
def ckW (b L : List Int) : Bool := (List.range 80).all fun t => decide (L.getD t 0 = if t < 16 then wrd b t else IntKind.u64.wrap (IntKind.u64.wrap (IntKind.u64.wrap (lo1 (L.getD (t - 2) 0) + L.getD (t - 7) 0) + lo0 (L.getD (t - 15) 0)) + L.getD (t - 16) 0))
theorem wds_of {b L : List Int} (h : ckW b L = true) : ∀ t, t < 80 → wds b t = L.getD t 0 := by
 have hc : ∀ t, t < 80 → L.getD t 0 = if t < 16 then wrd b t else IntKind.u64.wrap (IntKind.u64.wrap (IntKind.u64.wrap (lo1 (L.getD (t - 2) 0) + L.getD (t - 7) 0) + lo0 (L.getD (t - 15) 0)) + L.getD (t - 16) 0) := fun t ht => of_decide_eq_true (List.all_eq_true.1 h t (List.mem_range.2 ht))
 intro t
 induction t using Nat.strongRecOn with
 | ind t ih =>
  intro ht
  rw [hc t ht]
  by_cases h16 : t < 16
  ·rw [wds_lo b h16, if_pos h16]
  ·rw [wds_hi b h16, if_neg h16, ih (t - 2) (by omega) (by omega), ih (t - 7) (by omega) (by omega), ih (t - 15) (by omega) (by omega), ih (t - 16) (by omega) (by omega)]
theorem rs_congr {h : List Int} {W V : Nat → Int} : ∀ t, (∀ j, j < t → W j = V j) → rs h W t = rs h V t
 | 0, _ => rfl
 | t + 1, e => by rw [rs, rs, rs_congr t (fun j hj => e j (by omega)), e t (by omega)]
theorem blk_of {h b L v : List Int} (hw : ckW b L = true) (hs : sums h (rs h (fun t => L.getD t 0) 80).list 8 = v) : blk h b = v := by
 rw [blk, rs_congr 80 (fun j hj => wds_of hw j hj), hs]
theorem sum_cert (m L0 h1 out : List Int) (q : (m ++ padL m.length).length / 128 = 1) (w0 : ckW (chunk (m ++ padL m.length) 0) L0 = true) (s0 : sums sl (rs sl (fun t => L0.getD t 0) 80).list 8 = h1) (o : byts h1 = out) : sumL m = out := by
 rw [sumL, sumW, q, fol, fol, blk_of w0 s0, o]
set_option maxRecDepth 100000 in
theorem h_seed : sumL [157, 97, 177, 157, 239, 253, 90, 96, 186, 132, 74, 244, 146, 236, 44, 196, 68, 73, 197, 105, 123, 50, 105, 25, 112, 59, 172, 3, 28, 174, 127, 96] = [53, 124, 131, 134, 79, 40, 51, 203, 66, 122, 46, 241, 192, 10, 1, 60, 253, 255, 39, 104, 217, 128, 192, 163, 165, 32, 240, 6, 144, 77, 233, 15, 155, 79, 10, 254, 40, 11, 116, 106, 119, 134, 132, 231, 84, 66, 80, 32, 87, 183, 71, 58, 3, 240, 143, 150, 245, 163, 142, 146, 135, 224, 31, 143] := sum_cert _ [11340540628589959776, 13439949602277829828, 4920681124708116761, 8087246685239934816, 9223372036854775808, 0, 0, 0, 0, 0, 0, 0, 0, 0, 0, 256, 3886425347918298231, 8542347658302363391, 18229131110849095977, 6421411402502358496, 12754692608586468014, 12768553410687516748, 10637497887690654748, 16808738401614536071, 13024047609976507435, 3975514864472108232, 10934649550491752448, 14779980063289390500, 12526347386096539574, 74483078311160739, 12698564945945638864, 2277977565096410000, 6332378472813999443, 13306205861292041792, 4574081900338420525, 14531855269087536363, 16114069238654472986, 2941058387198508804, 10515718932408063916, 13505886204484055524, 14482739807942252599, 14461847734697826718, 13623966163744645118, 14078934047557120575, 16990553921929118747, 10601055034184671278, 15640950781990473585, 10331378838149832359, 2965026427204820105, 10638048368995163316, 6018706297820410017, 16068386695918667064, 11979639539783492642, 16381298724786607692, 9648747805126983160, 12875856552341618576, 18028205816386400414, 17167941899091134139, 11563122849355098270, 17502110680062365856, 11649835634801973621, 5526813780048115234, 15685436247429129146, 1291151770509137568, 7947106572515586364, 13987425076755206371, 4780533405261130125, 3707676831172187771, 10234559760953870915, 13412240509700820478, 11787646102289479248, 11343012456682946946, 8815309780360101466, 9911175327474526909, 6405204879165837248, 17315845919774553925, 10367285631199862323, 3413130940000734318, 16638270209467058520, 11796989650233160027] [3854099993999193035, 4790192769505820988, 18302390741936160931, 11898774126494345487, 11191175685748782186, 8612717466478596128, 6320598916537552790, 17700147720492162959] _ (by decide +kernel) (by decide +kernel) (by decide +kernel) (by decide +kernel)
set_option maxRecDepth 100000 in
theorem h_pre : sumL [155, 79, 10, 254, 40, 11, 116, 106, 119, 134, 132, 231, 84, 66, 80, 32, 87, 183, 71, 58, 3, 240, 143, 150, 245, 163, 142, 146, 135, 224, 31, 143] = [182, 177, 156, 216, 224, 66, 111, 89, 131, 250, 17, 45, 137, 161, 67, 170, 151, 218, 184, 188, 93, 235, 141, 91, 98, 83, 201, 40, 182, 82, 114, 244, 4, 64, 152, 194, 169, 144, 3, 156, 222, 91, 106, 72, 24, 223, 11, 251, 110, 64, 220, 93, 238, 84, 36, 128, 50, 150, 35, 35, 231, 1, 53, 45] := sum_cert _ [11191175685748782186, 8612717466478596128, 6320598916537552790, 17700147720492162959, 9223372036854775808, 0, 0, 0, 0, 0, 0, 0, 0, 0, 0, 256, 13162567042624742218, 3803851991914819199, 7524324725663984162, 12283224160655842646, 13815858245330256711, 3653883882552429004, 524764117103663793, 5405946571865091022, 13102009272801105079, 9000344734186870183, 17965702955324652192, 2609318831292568204, 8132337552405839024, 17489842707005951335, 14668600006828670775, 13116570106952693714, 6993584721918142310, 8701923283629562261, 10124442702549521912, 10464667960810157839, 13548614463127555461, 13717774473470673642, 10097656753990693907, 9847784676279259380, 13128114411351704091, 5510810876729716064, 11249158302540443932, 4073593609841379323, 15222963674547383039, 14325332456264195278, 12761448204080990963, 92431743496651116, 13458378255619106229, 12619446859899679674, 14676389740387336236, 11314594728676094014, 11962871550335793086, 8673474765030738469, 17546532997698893329, 16107603853182190576, 11906859909384292995, 225069695411585382, 15157461684990874336, 13780461601715999772, 11210708269191191848, 13132090318517568344, 4806361776729597981, 9474258895444318749, 854427797922575065, 4943506106898773333, 13598863378703044870, 16208583289325356695, 15204092482648451654, 16841490445813355595, 15537081239760591355, 16771192069080537019, 17724722684053035131, 2657351230931615200, 16480739614211414912, 1643337768160426471, 6731331163600844813, 11786215289170522563, 15984112029270800748, 479119496989651590] [13164475641069989721, 9509932450426471338, 10942261363819122011, 7085227815478653684, 306412736497058716, 16022516957188131835, 7944592038670115968, 3645139585509438765] _ (by decide +kernel) (by decide +kernel) (by decide +kernel) (by decide +kernel)
set_option maxRecDepth 100000 in
theorem h_chl : sumL [229, 86, 67, 0, 195, 96, 172, 114, 144, 134, 226, 204, 128, 110, 130, 138, 132, 135, 127, 30, 184, 229, 217, 116, 216, 115, 224, 101, 34, 73, 1, 85, 215, 90, 152, 1, 130, 177, 10, 183, 213, 75, 254, 211, 201, 100, 7, 58, 14, 225, 114, 243, 218, 166, 35, 37, 175, 2, 26, 104, 247, 7, 81, 26] = [39, 113, 6, 43, 107, 83, 111, 231, 255, 189, 218, 3, 32, 195, 130, 123, 3, 93, 241, 13, 40, 77, 243, 240, 130, 34, 240, 77, 188, 167, 164, 194, 14, 241, 91, 220, 152, 138, 34, 199, 32, 116, 17, 55, 124, 51, 242, 172, 9, 177, 232, 106, 4, 98, 52, 40, 55, 104, 238, 123, 160, 60, 14, 159] := sum_cert _ [16525469553239567474, 10414260556296782474, 9549741304790243700, 15597056659485688149, 15517882598313495223, 15369658338902279994, 1072264577961829157, 12610670944714182938, 9223372036854775808, 0, 0, 0, 0, 0, 0, 512, 12198348418734137140, 14453485907995153763, 10944660805302408727, 4859225357753104871, 15040124494305083981, 11887746208527811204, 8796323175618469012, 4528573694897487508, 7170125796163713724, 4742126036720922561, 11980175633040823894, 809947696032618550, 16085890908325545774, 11878525229585162201, 8743289607885634625, 17622680751732737827, 2164583481087210105, 10076100321513195217, 12680143750240497187, 6573009893347959037, 11376364045998637701, 7244866485353131297, 2230095749818247566, 3073857882040055050, 10041328083244025299, 5324339089284843225, 5572732009569601244, 13907115422875496473, 12800593697514534141, 17576396111647183776, 11949300070390514963, 2663284809915075296, 142828202877675969, 14166379989659076687, 9533800096972132093, 1587053610756782148, 9182335453229599664, 3682857379949381381, 2814364426798397490, 13592660906508199982, 364309790790542036, 8904037735393137352, 18435663309566973855, 4876107976347392125, 11343539192895142005, 3051509755409366455, 13450275529221924218, 14545086035351869123, 3787584163121053460, 16305455307366793964, 12314188393413892622, 12986606835282514620, 2697266822986003386, 4683252611303073418, 6346636192827242739, 4745660856670727323, 8897722051632614797, 4804863659982212591, 6028024782886853595, 13902825384254018185, 9784147849850791406, 9213620706453488783, 11249118312734933338, 5976138674989769757] [2842059623401484263, 18428124957239378555, 242614993760941040, 9377321590807045314, 1076742788928381639, 2338513036516782764, 698594959256859688, 3992703284400623263] _ (by decide +kernel) (by decide +kernel) (by decide +kernel) (by decide +kernel)
set_option maxRecDepth 100000 in
theorem h_chl0 : sumL [229, 86, 67, 0, 195, 96, 172, 114, 144, 134, 226, 204, 128, 110, 130, 138, 132, 135, 127, 30, 184, 229, 217, 116, 216, 115, 224, 101, 34, 73, 1, 85, 215, 90, 152, 1, 130, 177, 10, 183, 213, 75, 254, 211, 201, 100, 7, 58, 14, 225, 114, 243, 218, 166, 35, 37, 175, 2, 26, 104, 247, 7, 81, 26, 0] = [254, 38, 206, 2, 229, 210, 48, 85, 22, 93, 174, 65, 250, 230, 205, 17, 153, 165, 52, 87, 251, 111, 213, 218, 79, 168, 99, 249, 209, 228, 71, 145, 243, 102, 29, 76, 150, 181, 184, 177, 234, 122, 202, 246, 157, 204, 84, 232, 202, 189, 229, 62, 110, 1, 159, 47, 8, 166, 77, 180, 86, 154, 13, 162] := sum_cert _ [16525469553239567474, 10414260556296782474, 9549741304790243700, 15597056659485688149, 15517882598313495223, 15369658338902279994, 1072264577961829157, 12610670944714182938, 36028797018963968, 0, 0, 0, 0, 0, 0, 520, 12198348418734137140, 14453767382971864483, 10944660805302408727, 4859220959169723366, 15040124494305083981, 11869731883032768132, 8796323175618469020, 12905409117664444996, 16430089579990874812, 8228210934507367258, 11550631556258224209, 13680140413259429828, 12728711940259997486, 348423540178944351, 5054653634029480012, 7780296468487736324, 5677184755747313370, 11966667093859162850, 781949026118589685, 4726402117360262808, 13449403091319585840, 14614209710746071520, 5379894529284839893, 14747006350836233970, 11888863719063868125, 15466850977002846492, 4338057253014045375, 12201987998358294777, 12255787560032806927, 3558682112832641867, 11174008782830049124, 3993019335088695104, 17177447899952414816, 5340760354996123003, 12455739805840653541, 13240743796993770897, 8373047373235211585, 16922053151376404007, 17364214552259199887, 3635630289425686192, 7613323678695270384, 18274377282332875993, 6389658679159908839, 9092251574077470170, 5911741931195311669, 5815241243628384404, 5714628360411565252, 12242264045846950965, 13665499665253358338, 6372240293675152563, 13473642161927680018, 14543042443828586099, 16389191393684058574, 9368823003274769643, 18046147092182688828, 3545351647398522747, 2723048118935745140, 11028929836306115897, 10997032530796547475, 13711644682162528743, 4031301377244024022, 13485265264599878646, 10907741203979620076, 14950723451844486507] [18313551446589714517, 1611635840074042641, 11071312811445442010, 5739947649703102353, 17538738013624187057, 16896040112592016616, 14609084822556090159, 623271035379781026] _ (by decide +kernel) (by decide +kernel) (by decide +kernel) (by decide +kernel)
end Go.Proofs.YtajaiiidafkijaaDoor.Wi
namespace Go.Proofs.YtajaiiidafkijaaDoor
set_option maxRecDepth 100000
structure P4 where
 x : Int
 y : Int
 z : Int
 t : Int
def P4.Is (s : P4) (P : E1) : Prop := Sp P s.x s.y s.z s.t
def tw4 (s : P4) : P4 :=
 let e := (s.x + s.y) * (s.x + s.y) % prm
 let a := s.x * s.x % prm
 let b := s.y * s.y % prm
 let u := (b + a) % prm
 let g := (b - a) % prm
 let c := (s.z * s.z * 2 - g) % prm
 let m := (e - u) % prm
 ⟨m * c % prm, u * g % prm, g * c % prm, m * u % prm⟩
def ad4 (s : P4) : P4 :=
 let a := (s.y - s.x) * 7483077846065124216226455456145138724851195609353495336611898209616403005153 % prm
 let b := (s.y + s.x) * 27254548925129734410844840046461233631129799790338673875225376992757536081482 % prm
 let c := s.t * 49533667322653144631478357921255179433331455368741453320945793776149714861489 % prm
 let d := s.z * 243332 % prm
 let m := (b - a) % prm
 let n := (b + a) % prm
 let f := (d - c) % prm
 let g := (d + c) % prm
 ⟨m * g % prm, n * f % prm, f * g % prm, m * n % prm⟩
theorem mc {a b : Int} (h : Zp (a - b)) : Zp (a % prm - b) := zp_lin2 1 1 (zp_emod a) h (by grind)
theorem m_mul {a a' b b' : Int} (h : Zp (a - a')) (g : Zp (b - b')) : Zp (a * b - a' * b') := zp_lin2 b a' h g (by grind)
theorem m_add {a a' b b' : Int} (h : Zp (a - a')) (g : Zp (b - b')) : Zp (a + b - (a' + b')) := zp_lin2 1 1 h g (by grind)
theorem m_sub {a a' b b' : Int} (h : Zp (a - a')) (g : Zp (b - b')) : Zp (a - b - (a' - b')) := zp_lin2 1 (-1) h g (by grind)
theorem m_id (a : Int) : Zp (a - a) := by rw [Int.sub_self]; exact zp_zero
theorem tw4_is {s : P4} {P : E1} (h : s.Is P) : (tw4 s).Is (pl P P) := by
 have e : Zp ((s.x + s.y) * (s.x + s.y) % prm - (s.x + s.y) * (s.x + s.y)) := mc (m_id _)
 have a : Zp (s.x * s.x % prm - s.x * s.x) := mc (m_id _)
 have b : Zp (s.y * s.y % prm - s.y * s.y) := mc (m_id _)
 have u := mc (m_add b a)
 have g := mc (m_sub b a)
 have c := mc (m_sub (m_id (s.z * s.z * 2)) g)
 have m := mc (m_sub e u)
 exact (sp_twice h).cong (mc (m_mul m c)) (mc (m_mul u g)) (mc (m_mul g c)) (mc (m_mul m u))
theorem ad4_is {s : P4} {P : E1} (h : s.Is P) : (ad4 s).Is (pl P bp) := by
 have hq := sp_flat (P := bp) (X := 15112221349535400772501151409588531511454012693041857206046113283949847762202) (Y := 46316835694926478169428394003475163141307993866256225615783033603165251855960) (by rw [bp_tx]; exact m_id _) (m_id _)
 have k1 : Zp (7483077846065124216226455456145138724851195609353495336611898209616403005153 - (46316835694926478169428394003475163141307993866256225615783033603165251855960 - 15112221349535400772501151409588531511454012693041857206046113283949847762202) * 121666) := by unfold Zp; decide +kernel
 have k2 : Zp (27254548925129734410844840046461233631129799790338673875225376992757536081482 - (46316835694926478169428394003475163141307993866256225615783033603165251855960 + 15112221349535400772501151409588531511454012693041857206046113283949847762202) * 121666) := by unfold Zp; decide +kernel
 have k3 : Zp (243332 - 1 * 243332) := by unfold Zp; decide +kernel
 have k4 : Zp (49533667322653144631478357921255179433331455368741453320945793776149714861489 - 15112221349535400772501151409588531511454012693041857206046113283949847762202 * 46316835694926478169428394003475163141307993866256225615783033603165251855960 * 243330) := by unfold Zp; decide +kernel
 have a := mc (m_mul (m_id (s.y - s.x)) k1)
 have b := mc (m_mul (m_id (s.y + s.x)) k2)
 have c := mc (m_mul (m_id s.t) k4)
 have d := mc (m_mul (m_id s.z) k3)
 have m := mc (m_sub b a)
 have n := mc (m_add b a)
 have f := mc (m_sub d c)
 have g := mc (m_add d c)
 exact (sp_plus h hq).cong (mc (m_mul m g)) (mc (m_mul n f)) (mc (m_mul f g)) (mc (m_mul m n))
def mul4 (n : Nat) : Nat → P4
 | 0 => ⟨0, 1, 1, 0⟩
 | i + 1 => if n / 2 ^ (254 - i) % 2 = 1 then ad4 (tw4 (mul4 n i)) else tw4 (mul4 n i)
theorem mul4_is (n : Nat) (hn : n < 2 ^ 255) : ∀ i, i ≤ 255 → (mul4 n i).Is (ml (n / 2 ^ (255 - i)) bp)
 | 0, _ => by
  have e : n / 2 ^ (255 - 0) = 0 := Nat.div_eq_of_lt hn
  rw [e, ml_zero]
  exact sp_ze
 | i + 1, h => by
  have ih := mul4_is n hn i (by omega)
  have e1 : 255 - (i + 1) = 254 - i := by omega
  have e2 : n / 2 ^ (255 - i) = n / 2 ^ (254 - i) / 2 := by rw [show 255 - i = (254 - i) + 1 by omega, Nat.pow_succ, Nat.div_div_eq_div_mul]
  rw [e1]
  rw [e2] at ih
  have ht := tw4_is ih
  rw [ml_two] at ht
  unfold mul4
  generalize n / 2 ^ (254 - i) = m at *
  by_cases hb : m % 2 = 1
  ·rw [if_pos hb]
   have e : m = 2 * (m / 2) + 1 := by omega
   have ha := ad4_is ht
   rw [ml_next, ← e] at ha
   exact ha
  ·rw [if_neg hb]
   have e : m = 2 * (m / 2) := by omega
   rw [← e] at ht
   exact ht
def ck4 (s : P4) (zi v : Int) : Bool := decide (s.z * zi % prm = 1) && decide (s.y * zi % prm + 57896044618658097711785492504343953926634992332820282019728792003956564819968 * (s.x * zi % prm % 2) = v)
theorem pb_cert {n : Nat} (hn : n < 2 ^ 255) (zi v : Int) (h : ck4 (mul4 n 255) zi v = true) : pb (ml n bp) = v := by
 have hs := mul4_is n hn 255 (Nat.le_refl _)
 rw [show n / 2 ^ (255 - 255) = n by simp] at hs
 generalize mul4 n 255 = s at *
 generalize ml n bp = P at *
 unfold ck4 at h
 rw [Bool.and_eq_true] at h
 have h1 := of_decide_eq_true h.1
 have h2 := of_decide_eq_true h.2
 obtain ⟨n1, a1, b1, c1⟩ := hs
 have hz : Zp (s.z * zi - 1) := zp_sub.2 (by rw [h1]; decide)
 have hx : s.x * zi % prm = tx P := mod_of (by generalize tx P = t at *; exact zp_lin2 zi t a1 hz (by grind)) (tx_bd P).1 (tx_bd P).2
 have hy : s.y * zi % prm = P.y := mod_of (zp_lin2 zi P.y b1 hz (by grind)) (y_bd P).1 (y_bd P).2
 rw [hx, hy] at h2
 exact h2
set_option maxRecDepth 100000 in
theorem pb_A : pb (ml 36144925721603087658594284515452164870581325872720374094707712194495455132720 bp) = 11903303657706407974989296177215005343713679411332034699907763981919547054807 := pb_cert (by decide) 19112655870868333219888091023222947010961077606331093985675503085371900498777 _ (by decide +kernel)
set_option maxRecDepth 100000 in
theorem pb_R : pb (ml 2015312323900227545039973048451112962192803170366412514267238242679089760755 bp) = 38448863731492799660668882834560725606410712239157980760146247592118262650597 := pb_cert (by decide) 422792464097142491409738567939991686950993843746129971120211748369847007939 _ (by decide +kernel)
theorem two_aux {x c : Int} (hq : Zp (-(x * x) + 4 - 1 + c * (x * x) * 4)) (hc : Zp (121666 * c - 121665)) (nx : ¬ Zp x) : False := by
 have hz := iv_mul nx
 generalize iv x = z at *
 have h0 : Zp (42739057144513296927016352149114970273869755619281842832163522194144646560803 * 42739057144513296927016352149114970273869755619281842832163522194144646560803 * 364994 + 486660 * 364998) := by unfold Zp; decide +kernel
 have hk : ¬ Zp 364994 := by unfold Zp; decide
 refine nsq_A (42739057144513296927016352149114970273869755619281842832163522194144646560803 * z) (zp_cancel (a := 364994) ?_ hk)
 have e1 : Zp (364994 * (x * x) + 364998) := zp_lin2 121666 (-4 * (x * x)) hq hc (by grind)
 exact zp_lin3 (z * z) (-486660 * (z * z)) (486660 * 364994 * (x * z + 1)) h0 e1 hz (by grind)
theorem two_no (P : E1) : pb P ≠ 2 := fun h => by
 have h1 := y_bd P
 have h3 : 0 ≤ tx P % 2 ∧ tx P % 2 < 2 := ⟨Int.emod_nonneg _ (by decide), Int.emod_lt_of_pos _ (by decide)⟩
 have hy : P.y = 2 := by unfold pb at h; rw [prm_is] at h1; omega
 have hq := tx_qy P
 rw [hy] at hq
 have hs := qy_spec 2
 have hc := ec1_eq
 generalize tx P = x at *
 clear h h1 hy
 clear P
 generalize qy 2 = q at *
 generalize ec1 = c at *
 have e : Zp (x * x * (1 - c * (2 * 2)) - (2 * 2 - 1)) := zp_lin2 1 (1 - c * (2 * 2)) hs hq (by grind)
 refine two_aux (x := x) (c := c) (zp_lin1 (-1) e (by grind)) hc fun g => ?_
 have : Zp 3 := zp_lin2 (-1) (x * (1 - c * 4)) e g (by grind)
 revert this
 unfold Zp
 decide
theorem pe_two : pe 2 = 190 := (pe_no two_no).1
theorem pe_one : pe 1 = 0 ∧ pp 1 = ze := by
 have e : pb ze = 1 := by unfold pb; rw [tx_ze]; rfl
 rw [← e]
 exact ⟨pe_pb _, pp_pb _⟩
end Go.Proofs.YtajaiiidafkijaaDoor
namespace Go.Proofs.YtajaiiidafkijaaDoor
set_option maxRecDepth 100000
open Go Go.RowKit Go.Sort
attribute [local go_sem] setCell_drewN alloc_drewN
set_option maxRecDepth 100000 in
set_option maxHeartbeats 8000000 in
theorem a_number (ls : List (List Int)) (w : World) (v : Value) (hO : Ord w) (hP : PcK w v ls) (hl : ls.flatten.length ≤ 4611686018427386000) : Calls Tryd.prog 60 #[v] w fun e w' => e = .returned (.agg (wd (nbr ls.flatten))) ∧ Below w.heap.size w w' := by
 obtain ⟨ao, cap, rfl, hpl, hpc⟩ := hP
 have hfl := flt_len ls
 have hfn := flt_next ls
 have hfa := flt_all ls
 have hrd := fun W h v hb => a_Reduce (Wi.sumL ls.flatten) W v h hb
 have oR := wdo (nbr ls.flatten)
 have hsl := Wi.sumL_len ls.flatten
 have hsz : ∀ z ∈ Wi.sumL ls.flatten, 0 ≤ z ∧ z < 256 := Wi.byts_bd _
 change ∀ W, Ord W → ∀ v, Bys W v (Wi.sumL ls.flatten) → Calls Tryd.prog 27 #[v] W fun e w' => e = .returned (.agg (wd (nbr ls.flatten))) ∧ Below W.heap.size W w' at hrd
 generalize wd (nbr ls.flatten) = xR at *
 have r2 := hp1_0 w (.cells #[.int .u64 0, .int .u64 0, .int .u64 0, .int .u64 0] 54)
 have hw : Below w.heap.size w (w.alloc (.cells #[.int .u64 0, .int .u64 0, .int .u64 0, .int .u64 0] 54)) := (Below.refl _ _).alloc (Nat.le_refl _) _
 have f4 := hO.alloc (.cells #[.int .u64 0, .int .u64 0, .int .u64 0, .int .u64 0] 54)
 go_enter Tryd.func60, Tryd.ntmps60
 iterate 6 go_step
 generalize w.alloc (.cells #[.int .u64 0, .int .u64 0, .int .u64 0, .int .u64 0] 54) = w0 at *
 go_wp2_with (fail)
 have hs0 := lt_of_row r2
 refine (Wi.a_new w0).mono ?_
 rintro e_ w1 ⟨g, hg, rfl, rH, hb⟩
 replace r2 := keep hb r2
 replace hw := Below.after hw hb
 replace f4 := f4.below hb
 have hw0 := hw.size
 clear hb
 go_wp2_with (fail)
 generalize en : ls.length = np at *
 generalize eg : w.heap.size = n0 at *
 go_loopw [10] (fun i wr => ∃ k : Nat, k ≤ np ∧ i = .int .i64 k ∧ wr.heap[g]? = some (.cells (Wi.hst (flt ls k)) 139 (0, 0)) ∧ wr.heap[n0]? = some (.cells #[.int .u64 0, .int .u64 0, .int .u64 0, .int .u64 0] 54 (0, 0)) ∧ (∀ z ∈ flt ls k, 0 ≤ z ∧ z < 256) ∧ Ord wr ∧ Below n0 w wr) (fun i _ => np - (intOf i).toNat)
 case atStart => exact ⟨0, by omega, rfl, rH, r2, (by intro z h; cases h), f4, hw⟩
 case round =>
  clear rH r2 f4 hw
  obtain ⟨k, hk, rfl, rH, r2, hfz, f4, hw⟩ := hrel
  by_cases hlt : k < np
  ·have hd : decide ((k : Int) < (np : Int)) = true := by simp; omega
   obtain ⟨pb, poff, u, uc, rfl, hpb, hpcell, hBk, hun⟩ := hpc k hlt
   have hc := (hw.cell (p := ⟨pb, poff + k, none⟩) hpb).trans hpcell
   have hB2 := hBk.keep (by rw [eg]; exact hw)
   have hF1 := hfn k hlt
   have hf1 := hfl (k + 1)
   rw [hF1, List.length_append] at hf1
   have hblk := bys_blk hBk
   have hPz : ∀ z ∈ ls.getD k [], 0 ≤ z ∧ z < 256 := by obtain ⟨_, _, _, _, _, h⟩ := hBk; exact h
   clear hpc hfn hfl hBk hpcell
   generalize ls.getD k [] = Pk at *
   go_wp2_with (fail)
   refine (Wi.a_write (flt ls k) Pk g wr (.slice u Pk.length uc) rH hB2 (fun a l c e h0 => by cases e; have := hblk a rfl h0; omega) (fun a l c e => by cases e; exact hun) hfz (by omega)).mono ?_
   rintro e_ w2 ⟨rfl, rH2, hgr⟩
   rw [← hF1] at rH2
   have hw2 : Below n0 w w2 := by rw [← eg] at *; exact below_grown hw hgr (by omega)
   have r2' := (hgr.block n0 (lt_of_row r2) (by intro e; injection e with e; omega)).trans r2
   clear rH r2 hgr
   go_wp2_with (fail)
   go_roundw
   case rel => exact ⟨k + 1, by omega, by go_num, rH2, r2', (by rw [hF1]; exact Wi.both_bd hfz hPz), hO.below (by rw [eg]; exact hw2), hw2⟩
   case measure => simp [intOf]; omega
  ·have hd : decide ((k : Int) < (np : Int)) = false := by simp; omega
   obtain rfl : k = np := by omega
   rw [hfa] at rH hfz
   go_wp2_with (fail)
   refine (Wi.a_hsum ls.flatten g wr rH hfz (by omega)).mono ?_
   rintro e_ w3 ⟨rfl, hb⟩
   have lw := hw.size
   replace r2 := keep hb r2
   replace hw := Below.after (by rw [eg] at *; exact hw) hb
   replace f4 := f4.below hb
   clear hb rH
   go_wp2_with (first | (refine wpList_store_row rfl 37 _ _ rfl (w3.heap.size) (Wi.irow .u8 (Wi.sumL ls.flatten)) rfl rfl 37 (Wi.irow .u8 (Wi.zr 64)) (hp1_0 w3 _) (Wi.infok8 _ hsl) (Wi.fit64 _ _ rfl hsl) (irow_one _) ?_; rw [setRow_alloc_new _ _ _ _ _ _ (by simp)]; refine wpList_stay ?_) | (refine wpList_alloc rfl 37 rfl (Wi.irow .u8 (Wi.zr 64)) zW ?_) | fail)
   unfold WpStay
   try simp only [Act.put]
   have rk := hp1_0 w3 (.cells (Wi.irow .u8 (Wi.sumL ls.flatten)) 37)
   have hb : Below w3.heap.size w3 (w3.alloc (.cells (Wi.irow .u8 (Wi.sumL ls.flatten)) 37)) := (Below.refl _ _).alloc (Nat.le_refl _) _
   generalize w3.alloc (.cells (Wi.irow .u8 (Wi.sumL ls.flatten)) 37) = w4 at *
   replace r2 := keep hb r2
   replace hw := Below.after hw hb
   replace f4 := f4.below hb
   clear hb
   generalize w3.heap.size = gk at *
   have hSl : Bys w4 (.slice (some ⟨gk, 0, none⟩) 64 64) (Wi.sumL ls.flatten) := by
    have := Wi.Bys.of_row rk (by rw [hsl]; decide) hsz 64
    rw [hsl] at this
    exact this
   go_wp2_with (fail)
   refine (hrd _ f4 _ hSl).mono ?_
   rintro e_ w5 ⟨rfl, hb⟩
   replace r2 := keep hb r2
   replace hw := Below.after hw hb
   clear hb
   go_wp2_with (first | (refine wpList_store_row rfl 54 _ _ rfl n0 xR rfl rfl 54 _ r2 oR.infoS oR.fit oR.2 ?_) | fail)
   exact bodyPost_ret (v := .agg xR) (results_cell_row Tryd.results60 _ _ n0 _ xR _ _ rfl (setRow_heap _ _ _ _ _ _ r2) Tryd.underlying54 rfl oR.infoS) rfl ⟨rfl, below_setRow hw (by omega) _⟩
end Go.Proofs.YtajaiiidafkijaaDoor
namespace Go.Proofs.YtajaiiidafkijaaDoor
set_option maxRecDepth 100000
open Go Go.RowKit Go.Sort
attribute [local go_sem] setCell_drewN alloc_drewN
theorem eight (P : E1) : pl (pl (pl P P) (pl P P)) (pl (pl P P) (pl P P)) = ml 8 P := by
 have h : pl P P = ml 2 P := by rw [show (2 : Nat) = 1 + 1 from rfl, ml_add, ml_one]
 rw [h, ml_two, ml_two]
set_option maxRecDepth 100000 in
set_option maxHeartbeats 8000000 in
theorem a_Small {r : Array Value} {P : E1} (h : PtO r P) : Gives4 32 #[.agg r] (.bool (sml P)) := by
 obtain ⟨x1, h1, c1⟩ := a_Double h
 obtain ⟨x2, h2, c2⟩ := a_Double h1
 obtain ⟨x3, h3, c3⟩ := a_Double h2
 have c4 := a_IsNeutral h3
 rw [eight] at c4
 change Gives _ _ (.bool (sml P)) at c4
 intro w hF
 have rp0 := hp1_0 w (.cells r 45)
 have hw : Below w.heap.size w (w.alloc (.cells r 45)) := ((Below.refl _ _).alloc (Nat.le_refl _) _)
 have f4 := hF.alloc (.cells r 45)
 go_enter Tryd.func32, Tryd.ntmps32
 iterate 6 go_step
 generalize w.alloc (.cells r 45) = w0 at *
 go_wp2_with (first | (refine wpList_load_want rfl 45 _ rfl (w.heap.size) rfl 45 r (0, 0) _ rp0 Tryd.underlying45 rfl h.info ?_) | fail)
 refine (c1.at f4).mono ?_
 rintro e w1 ⟨rfl, hb⟩
 replace hw := Below.after hw hb
 replace f4 := f4.below hb
 clear hb rp0
 go_wp2_with (fail)
 refine (c2.at f4).mono ?_
 rintro e w2 ⟨rfl, hb⟩
 replace hw := Below.after hw hb
 replace f4 := f4.below hb
 clear hb
 go_wp2_with (fail)
 refine (c3.at f4).mono ?_
 rintro e w3 ⟨rfl, hb⟩
 replace hw := Below.after hw hb
 clear hb f4
 go_wp2_with (fail)
 refine (c4.at _).mono ?_
 rintro e w4 ⟨rfl, hb⟩
 replace hw := Below.after hw hb
 clear hb
 go_wp2
 go_ret
 exact ⟨rfl, hw⟩
set_option maxRecDepth 100000 in
set_option maxHeartbeats 8000000 in
theorem times_walk19 {xP xS xR : Array Value} {B : Int} {P Q : E1} (oP : PtO xP P) (oS : WdO xS) (oR : PtO xR Q) (hK : KeyOf (kb B) B) (cB : Gives 36 #[.agg xS] (.agg (kb B))) (c : ∀ (w : World) (ev : Value), Four w → Bys w ev (b32 B) → Calls Tryd.prog 20 #[.agg xP, ev] w fun e w' => e = .returned (.agg xR) ∧ Below w.heap.size w w') : Gives4 24 #[.agg xP, .agg xS] (.agg xR) := by
 intro w hF
 have rp0 := hp3_0 w (.cells xP 45) (.cells xS 54) (.cells q20 45)
 have rp1 := hp3_1 w (.cells xP 45) (.cells xS 54) (.cells q20 45)
 have rp2 := hp3_2 w (.cells xP 45) (.cells xS 54) (.cells q20 45)
 have hw : Below w.heap.size w (((w.alloc (.cells xP 45)).alloc (.cells xS 54)).alloc (.cells q20 45)) := (((Below.refl _ _).alloc (Nat.le_refl _) _).alloc (by simp) _).alloc (by simp; omega) _
 have f4 := ((hF.alloc (.cells xP 45)).alloc (.cells xS 54)).alloc (.cells q20 45)
 go_enter Tryd.func24, Tryd.ntmps24
 iterate 12 go_step
 generalize (((w.alloc (.cells xP 45)).alloc (.cells xS 54)).alloc (.cells q20 45)) = w0 at *
 go_wp2_with (first | (refine wpList_load_want rfl 54 _ rfl (w.heap.size + 1) rfl 54 xS (0, 0) _ rp1 Tryd.underlying54 rfl oS.infoS ?_) | fail)
 refine (cB.at _).mono ?_
 rintro e w1 ⟨rfl, hb⟩
 replace rp0 := keep hb rp0
 replace rp2 := keep hb rp2
 replace hw := Below.after hw hb
 replace f4 := f4.below hb
 clear hb
 go_wp2_with (first | (refine wpList_store_row rfl 25 _ _ rfl (w1.heap.size) (kb B) rfl rfl 25 q32 (hp1_0 w1 _) (kb_info _) rfl (kb_one _) ?_; rw [setRow_alloc_new _ _ _ _ _ _ (by simp)]; refine wpList_stay ?_) | fail)
 unfold WpStay
 try simp only [Act.put]
 have rk := hp1_0 w1 (.cells (kb B) 25)
 have hb : Below w1.heap.size w1 (w1.alloc (.cells (kb B) 25)) := (Below.refl _ _).alloc (Nat.le_refl _) _
 generalize w1.alloc (.cells (kb B) 25) = w2 at *
 replace rp0 := keep hb rp0
 replace rp2 := keep hb rp2
 replace hw := Below.after hw hb
 replace f4 := f4.below hb
 clear hb
 generalize w1.heap.size = gk at *
 clear w1
 have hSl := bys_row rk hK
 have H0 := keepr rp0
 go_wp2_with (fail)
 refine wp_region_tail (C := fun w' => ∃ p : Regrown, w' = grow (redrawn w2 p.d) p.os) 3 _ rfl rfl rfl (by kernel_rfl) (by kernel_rfl) (by kernel_rfl) (by kernel_rfl) ⟨⟨w2.drawn + 1, #[]⟩, by rw [grow_empty]; rfl⟩ ?_
 dsimp only [List.set, idle]
 refine wpQuiet_load_row rfl 45 _ rfl (w.heap.size) rfl 45 xP (0, 0) _ H0.out Tryd.underlying45 rfl oP.info ?_
 simp only [Act.put, ZPd, ZPe, ZPf]
 go_big_quiet_step (fail)
 go_big_quiet_step (exact re_bys4 f4 hSl c)
 refine wpQuiet_idle rfl rfl rfl ?_
 rintro _ ⟨p, rfl⟩
 have hb := below_regrown w2 p.d p.os
 generalize grow (redrawn w2 p.d) p.os = w3 at *
 replace rp2 := keep hb rp2
 replace hw := Below.after hw hb
 clear hb H0
 go_wp2_with (first | (refine wpList_store_row rfl 45 _ _ rfl (w.heap.size + 1 + 1) xR rfl rfl 45 _ rp2 oR.info (oR.size).symm oR.one ?_) | fail)
 exact bodyPost_ret (v := .agg xR) (results_cell_row Tryd.results24 _ _ (w.heap.size + 1 + 1) _ xR _ _ rfl (setRow_heap _ _ _ _ _ _ rp2) Tryd.underlying45 rfl oR.info) rfl ⟨rfl, below_setRow hw (by omega) _⟩
theorem a_Times {r : Array Value} {P : E1} (h : PtO r P) {N : Int} (hN : 0 ≤ N ∧ N < L19) : ∃ s, PtO s (ml N.toNat P) ∧ Gives4 24 #[.agg r, .agg (wd N)] (.agg s) := by
 have hL := L_lt
 obtain ⟨s, hs, c⟩ := a_Scale h (b32 N) (b32_bd N)
 rw [bval_b32 _ hN.1 (by omega)] at hs
 exact ⟨s, hs, times_walk19 (B := N) h (wdo N) hs (kb_key _ hN.1 (by omega)) (a_sBytes N) c⟩
end Go.Proofs.YtajaiiidafkijaaDoor

