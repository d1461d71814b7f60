import Derived.Test.YtajaiiidafkijaaDoorPGs
import Derived.Test.YtajaiiidafkijaaDoorPKa
import Derived.Deep.MidRow
namespace Go.Proofs.YtajaiiidafkijaaDoor
set_option maxRecDepth 100000
def Rep (s : Int) {c : Int} (P : EP c) (a b : Int) : Prop := ¬ (Zp a ∧ Zp b) ∧ Zp (a * (1 - P.y) - s * b * (1 + P.y))
theorem Rep.scale {s c : Int} {P : EP c} {a b : Int} (hs : s * s = 1) (h : Rep s P a b) : ∃ l, ¬ Zp l ∧ Zp (a - s * l * (1 + P.y)) ∧ Zp (b - l * (1 - P.y)) := by
 obtain ⟨hn, hr⟩ := h
 have hi := iv_mul zp_two
 generalize iv 2 = i at *
 generalize P.y = y at *
 have ha : Zp (a - s * ((s * a + b) * i) * (1 + y)) := zp_lin2 i (-a) hr hi (by grind)
 have hb : Zp (b - (s * a + b) * i * (1 - y)) := zp_lin2 (-(s * i)) (-b) hr hi (by grind)
 refine ⟨(s * a + b) * i, fun hl => hn ⟨?_, ?_⟩, ha, hb⟩
 ·exact zp_lin2 1 (s * (1 + y)) ha hl (by grind)
 ·exact zp_lin2 1 (1 - y) hb hl (by grind)
theorem Rep.congr {s c : Int} {P : EP c} {a b a' b' : Int} (h : Rep s P a b) (ha : Zp (a' - a)) (hb : Zp (b' - b)) : Rep s P a' b' := by
 obtain ⟨hn, hr⟩ := h
 refine ⟨fun ⟨q1, q2⟩ => hn ⟨zp_lin2 1 (-1) q1 ha (by grind), zp_lin2 1 (-1) q2 hb (by grind)⟩, ?_⟩
 generalize P.y = y at *
 exact zp_lin3 1 (1 - y) (-(s * (1 + y))) hr ha hb (by grind)
def Mont (s c : Int) : Prop := (s = 1 ∧ Zp (121666 * c - 121665)) ∨ (s = -1 ∧ Zp (121665 * c - 121666))
theorem Mont.sq {s c : Int} (h : Mont s c) : s * s = 1 := by rcases h with ⟨rfl, _⟩ | ⟨rfl, _⟩ <;> decide
theorem n16 : ¬ Zp 16 := by unfold Zp; decide
theorem n121666 : ¬ Zp 121666 := by unfold Zp; decide
theorem n121665 : ¬ Zp 121665 := by unfold Zp; decide
theorem Rep.double {s c : Int} (hc : NonSq c) (hm : Mont s c) {P : EP c} {a b : Int} (h : Rep s P a b) :
 Rep s (EP.add hc P P) ((a + b) * (a + b) * ((a - b) * (a - b))) (((a + b) * (a + b) - (a - b) * (a - b)) * ((a + b) * (a + b) + 121665 * ((a + b) * (a + b) - (a - b) * (a - b)))) := by
 obtain ⟨l, hl, ha, hb⟩ := h.scale hm.sq
 have sp := EP.add_y hc P P
 have dn := ed_minus hc P.on P.on
 have on := P.on
 unfold Rep
 generalize (EP.add hc P P).y = z at *
 generalize P.y = y at *
 generalize P.x = x at *
 have nl : ¬ Zp (16 * (l * l * (l * l))) := zp_ne_mul n16 (zp_ne_mul (zp_ne_mul hl hl) (zp_ne_mul hl hl))
 rcases hm with ⟨rfl, zc⟩ | ⟨rfl, zc⟩
 ·have he : Zp (a + b - 2 * l) := zp_lin2 1 1 ha hb (by grind)
  have hf : Zp (a - b - 2 * l * y) := zp_lin2 1 (-1) ha hb (by grind)
  generalize a + b = e at *
  generalize a - b = f at *
  have hy : Zp (e * e - 4 * l * l) := zp_lin1 (e + 2 * l) he (by grind)
  have hz : Zp (f * f - 4 * l * l * y * y) := zp_lin1 (f + 2 * l * y) hf (by grind)
  generalize e * e = Y at *
  generalize f * f = Z at *
  have hA : Zp (Y * Z - 16 * (l * l * (l * l)) * (y * y)) := zp_lin2 Z (4 * l * l) hy hz (by grind)
  have hr : Zp (Y - Z - 4 * l * l * (1 - y * y)) := zp_lin2 1 (-1) hy hz (by grind)
  generalize Y - Z = r at *
  have hY : Zp (Y + 121665 * r - 4 * l * l * (1 + 121665 * (1 - y * y))) := zp_lin2 1 121665 hy hr (by grind)
  generalize Y + 121665 * r = V at *
  have hB : Zp (r * V - 16 * (l * l * (l * l)) * ((1 - y * y) * (1 + 121665 * (1 - y * y)))) := zp_lin2 V (4 * l * l * (1 - y * y)) hr hY (by grind)
  generalize Y * Z = A at *
  generalize r * V = B at *
  have G : Zp (y * y * ((1 - c * x * x * y * y) - (y * y - x * x)) - (1 - y * y) * (1 + 121665 * (1 - y * y)) * ((1 - c * x * x * y * y) + (y * y - x * x))) :=
   zp_lin2 (2 * 121666 * (1 - y * y) + y * y - (1 - y * y) * (1 + 121665 * (1 - y * y))) (2 * (1 - y * y) * (x * x * (y * y))) on zc (by grind)
  constructor
  ·rintro ⟨q1, q2⟩
   have k1 : Zp (16 * (l * l * (l * l)) * (y * y)) := zp_lin2 1 (-1) q1 hA (by grind)
   have ky : Zp y := (zp_or (zp_cancel k1 nl)).elim id id
   have k2 : Zp (16 * (l * l * (l * l)) * 121666) := zp_lin3 1 (-1) (16 * (l * l * (l * l)) * (y * (1 + 121665 * (1 - y * y)) + y * 121665)) q2 hB ky (by grind)
   exact zp_ne_mul nl n121666 k2
  ·refine zp_cancel (a := 1 - c * x * x * y * y) ?_ dn
   have g2 : Zp (16 * (l * l * (l * l)) * (y * y * ((1 - c * x * x * y * y) - (y * y - x * x)) - (1 - y * y) * (1 + 121665 * (1 - y * y)) * ((1 - c * x * x * y * y) + (y * y - x * x)))) := zp_mul _ G
   generalize 16 * (l * l * (l * l)) = L at *
   generalize c * x * x * y * y = t at *
   generalize (1 - y * y) * (1 + 121665 * (1 - y * y)) = bb at *
   generalize y * y = yy at *
   generalize x * x = xx at *
   exact zp_lin4 ((1 - t) * (1 - z)) (-((1 - t) * (1 + z))) 1 (-(L * yy) - L * bb) hA hB g2 sp (by grind)
 ·have he : Zp (a + b + 2 * l * y) := zp_lin2 1 1 ha hb (by grind)
  have hf : Zp (a - b + 2 * l) := zp_lin2 1 (-1) ha hb (by grind)
  generalize a + b = e at *
  generalize a - b = f at *
  have hy : Zp (e * e - 4 * l * l * y * y) := zp_lin1 (e - 2 * l * y) he (by grind)
  have hz : Zp (f * f - 4 * l * l) := zp_lin1 (f - 2 * l) hf (by grind)
  generalize e * e = Y at *
  generalize f * f = Z at *
  have hA : Zp (Y * Z - 16 * (l * l * (l * l)) * (y * y)) := zp_lin2 Z (4 * l * l * y * y) hy hz (by grind)
  have hr : Zp (Y - Z + 4 * l * l * (1 - y * y)) := zp_lin2 1 (-1) hy hz (by grind)
  generalize Y - Z = r at *
  have hY : Zp (Y + 121665 * r - 4 * l * l * (y * y - 121665 * (1 - y * y))) := zp_lin2 1 121665 hy hr (by grind)
  generalize Y + 121665 * r = V at *
  have hB : Zp (r * V + 16 * (l * l * (l * l)) * ((1 - y * y) * (y * y - 121665 * (1 - y * y)))) := zp_lin2 V (-(4 * l * l * (1 - y * y))) hr hY (by grind)
  generalize Y * Z = A at *
  generalize r * V = B at *
  have G : Zp (y * y * ((1 - c * x * x * y * y) - (y * y - x * x)) - (1 - y * y) * (y * y - 121665 * (1 - y * y)) * ((1 - c * x * x * y * y) + (y * y - x * x))) :=
   zp_lin2 (-(2 * 121665 * (1 - y * y)) + y * y - (1 - y * y) * (y * y - 121665 * (1 - y * y))) (-(2 * (1 - y * y) * (x * x * (y * y)))) on zc (by grind)
  constructor
  ·rintro ⟨q1, q2⟩
   have k1 : Zp (16 * (l * l * (l * l)) * (y * y)) := zp_lin2 1 (-1) q1 hA (by grind)
   have ky : Zp y := (zp_or (zp_cancel k1 nl)).elim id id
   have k2 : Zp (16 * (l * l * (l * l)) * 121665) := zp_lin3 1 (-1) (16 * (l * l * (l * l)) * (-(y * (y * y - 121665 * (1 - y * y))) + y + 121665 * y)) q2 hB ky (by grind)
   exact zp_ne_mul nl n121665 k2
  ·refine zp_cancel (a := 1 - c * x * x * y * y) ?_ dn
   have g2 : Zp (16 * (l * l * (l * l)) * (y * y * ((1 - c * x * x * y * y) - (y * y - x * x)) - (1 - y * y) * (y * y - 121665 * (1 - y * y)) * ((1 - c * x * x * y * y) + (y * y - x * x)))) := zp_mul _ G
   generalize 16 * (l * l * (l * l)) = L at *
   generalize c * x * x * y * y = t at *
   generalize (1 - y * y) * (y * y - 121665 * (1 - y * y)) = bb at *
   generalize y * y = yy at *
   generalize x * x = xx at *
   exact zp_lin4 ((1 - t) * (1 - z)) ((1 - t) * (1 + z)) 1 (-(L * yy) - L * bb) hA hB g2 sp (by grind)
theorem Rep.diff {s c : Int} (hc : NonSq c) (hs : s * s = 1) {P Q : EP c} {a b u v X y0 : Int} (hP : Rep s P a b) (hQ : Rep s Q u v)
 (hD : Zp (y0 * (1 + (c * P.x * Q.x * P.y * Q.y)) - (P.y * Q.y + P.x * Q.x))) (hX : Zp (X * (1 - y0) - s * (1 + y0))) (nX : ¬ Zp X) (n0 : ¬ Zp (1 - y0)) :
 Rep s (EP.add hc P Q) (((u - v) * (a + b) + (u + v) * (a - b)) * ((u - v) * (a + b) + (u + v) * (a - b))) (X * (((u - v) * (a + b) - (u + v) * (a - b)) * ((u - v) * (a + b) - (u + v) * (a - b)))) := by
 obtain ⟨l, hl, ha, hb⟩ := hP.scale hs
 obtain ⟨m, hm, hu, hv⟩ := hQ.scale hs
 have sp := EP.add_y hc P Q
 have dp := ed_plus hc P.on Q.on
 have dm := ed_minus hc P.on Q.on
 have o1 := P.on
 have o2 := Q.on
 unfold Rep
 generalize (EP.add hc P Q).y = z at *
 generalize P.x = x1 at *
 generalize P.y = y1 at *
 generalize Q.x = x2 at *
 generalize Q.y = y2 at *
 have G : Zp ((1 - (c * x1 * x2 * y1 * y2) + (y1 * y2 - x1 * x2)) * (1 + (c * x1 * x2 * y1 * y2) + (y1 * y2 + x1 * x2)) * ((y1 - y2) * (y1 - y2)) - (1 - (c * x1 * x2 * y1 * y2) - (y1 * y2 - x1 * x2)) * (1 + (c * x1 * x2 * y1 * y2) - (y1 * y2 + x1 * x2)) * ((y1 + y2) * (y1 + y2))) :=
  zp_lin2 (4 * y1 * y2 * x2 * x2 - 4 * c * y1 * x2 * x2 * y2 * y2 * y2) (-(4 * y2 * y1 * y1 * y1) + 4 * y1 * y2) o1 o2 (by grind)
 have hM : Zp ((u - v) * (a + b) + (u + v) * (a - b) - 4 * l * m * (y1 + y2)) := zp_lin4 (2 * u) (-(2 * v)) (2 * s * l * (1 + y1)) (-(2 * l * (1 - y1))) ha hb hu hv (by grind)
 have hN : Zp ((u - v) * (a + b) - (u + v) * (a - b) - 4 * s * l * m * (y2 - y1)) := zp_lin4 (-(2 * v)) (2 * u) (2 * l * (1 - y1)) (-(2 * s * l * (1 + y1))) ha hb hu hv (by grind)
 generalize (u - v) * (a + b) + (u + v) * (a - b) = M at *
 generalize (u - v) * (a + b) - (u + v) * (a - b) = N at *
 have hC : Zp (M * M - 16 * (l * l * (m * m)) * ((y1 + y2) * (y1 + y2))) := zp_lin1 (M + 4 * l * m * (y1 + y2)) hM (by grind)
 have hE : Zp (N * N - 16 * (l * l * (m * m)) * ((y1 - y2) * (y1 - y2))) := zp_lin1 (N + 4 * s * l * m * (y2 - y1)) hN (by grind)
 have nl : ¬ Zp (16 * (l * l * (m * m))) := zp_ne_mul n16 (zp_ne_mul (zp_ne_mul hl hl) (zp_ne_mul hm hm))
 generalize 16 * (l * l * (m * m)) = L at *
 generalize M * M = C at *
 generalize N * N = D at *
 constructor
 ·rintro ⟨q1, q2⟩
  have k1 : Zp (L * ((y1 + y2) * (y1 + y2))) := zp_lin2 1 (-1) q1 hC (by grind)
  have k2 : Zp (L * ((y1 - y2) * (y1 - y2))) := zp_lin2 1 (-1) (zp_cancel q2 nX) hE (by grind)
  have s1 : Zp (y1 + y2) := (zp_or (zp_cancel k1 nl)).elim id id
  have s2 : Zp (y1 - y2) := (zp_or (zp_cancel k2 nl)).elim id id
  have z1 : Zp y1 := zp_cancel (a := 2) (zp_lin2 1 1 s1 s2 (by grind)) zp_two
  have z2 : Zp y2 := zp_cancel (a := 2) (zp_lin2 1 (-1) s1 s2 (by grind)) zp_two
  have w1 : Zp (x1 * x1 - 1) := zp_lin2 1 (-y1 + c * x1 * x1 * y1) o1 z1 (by grind)
  have w2 : Zp (x2 * x2 - 1) := zp_lin2 1 (-y2 + c * x2 * x2 * y2) o2 z2 (by grind)
  have w3 : Zp (y0 - x1 * x2) := zp_lin2 1 (-(y0 * c * x1 * x2 * y2) + y2) hD z1 (by grind)
  have w4 : Zp ((1 - y0) * (1 + y0)) := zp_lin3 (-(y0 + x1 * x2)) (-(x2 * x2)) (-1) w3 w1 w2 (by grind)
  rcases zp_or w4 with q | q
  ·exact n0 q
  ·exact nX (zp_cancel (a := 1 - y0) (zp_lin2 1 s hX q (by grind)) n0)
 ·refine zp_cancel (a := (1 - y0) * ((1 + (c * x1 * x2 * y1 * y2)) * (1 - (c * x1 * x2 * y1 * y2)))) ?_ (zp_ne_mul n0 (zp_ne_mul dp dm))
  generalize c * x1 * x2 * y1 * y2 = t at *
  generalize y1 * y2 - x1 * x2 = Ym at *
  generalize y1 * y2 + x1 * x2 = Yp at *
  generalize (y1 + y2) * (y1 + y2) = S at *
  generalize (y1 - y2) * (y1 - y2) = R at *
  have h1 : Zp ((1 - y0) * ((1 + t) * (1 - t)) * (C * (1 - z) - s * (X * D) * (1 + z)) - (1 - y0) * ((1 + t) * (1 - t)) * (L * S * (1 - z) - s * (X * (L * R)) * (1 + z))) := zp_lin2 ((1 - y0) * ((1 + t) * (1 - t)) * (1 - z)) (-((1 - y0) * ((1 + t) * (1 - t)) * (s * X * (1 + z)))) hC hE (by grind)
  have h2 : Zp ((1 - y0) * ((1 + t) * (1 - t)) * (L * S * (1 - z) - s * (X * (L * R)) * (1 + z)) - ((1 + t) * (1 - t)) * (L * S * (1 - y0) * (1 - z) - L * R * (1 + y0) * (1 + z))) := zp_lin1 (-((1 + t) * (1 - t) * s * L * R * (1 + z))) hX (by grind)
  have h3 : Zp ((1 + t) * (1 - t) * ((1 - y0) * (1 - z)) - (1 + t - Yp) * (1 - t - Ym)) := zp_lin2 (-((1 - t) * (1 - z))) (-(1 + t - Yp)) hD sp (by grind)
  have h4 : Zp ((1 + t) * (1 - t) * ((1 + y0) * (1 + z)) - (1 + t + Yp) * (1 - t + Ym)) := zp_lin2 ((1 - t) * (1 + z)) (1 + t + Yp) hD sp (by grind)
  have h5 : Zp (((1 + t) * (1 - t)) * (L * S * (1 - y0) * (1 - z) - L * R * (1 + y0) * (1 + z))) := zp_lin3 (L * S) (-(L * R)) (-L) h3 h4 G (by grind)
  exact zp_lin3 1 1 1 h1 h2 h5 (by grind)
end Go.Proofs.YtajaiiidafkijaaDoor
namespace Go.Proofs.YtajaiiidafkijaaDoor
set_option maxRecDepth 100000
theorem stp_cong (X : Int) (a b u v : Int) : Zp ((stp X ⟨a, b, u, v⟩).a - (a + b) * (a + b) * ((a - b) * (a - b))) ∧
 Zp ((stp X ⟨a, b, u, v⟩).b - ((a + b) * (a + b) - (a - b) * (a - b)) * ((a + b) * (a + b) + 121665 * ((a + b) * (a + b) - (a - b) * (a - b)))) ∧
 Zp ((stp X ⟨a, b, u, v⟩).c - ((u - v) * (a + b) + (u + v) * (a - b)) * ((u - v) * (a + b) + (u + v) * (a - b))) ∧
 Zp ((stp X ⟨a, b, u, v⟩).d - X * (((u - v) * (a + b) - (u + v) * (a - b)) * ((u - v) * (a + b) - (u + v) * (a - b)))) := by
 simp only [stp]
 have he := zp_emod (a + b)
 have hf := zp_emod (a - b)
 have hg := zp_emod (u + v)
 have hh := zp_emod (u - v)
 generalize (a + b) % prm = e at *
 generalize (a - b) % prm = f at *
 generalize (u + v) % prm = g at *
 generalize (u - v) % prm = h at *
 generalize a + b = e0 at *
 generalize a - b = f0 at *
 generalize u + v = g0 at *
 generalize u - v = h0 at *
 have hy : Zp (e * e % prm - e0 * e0) := zp_lin2 1 (e + e0) (zp_emod (e * e)) he (by grind)
 have hz : Zp (f * f % prm - f0 * f0) := zp_lin2 1 (f + f0) (zp_emod (f * f)) hf (by grind)
 have hm : Zp (h * e % prm - h0 * e0) := zp_lin3 1 e h0 (zp_emod (h * e)) hh he (by grind)
 have hn : Zp (g * f % prm - g0 * f0) := zp_lin3 1 f g0 (zp_emod (g * f)) hg hf (by grind)
 generalize e * e % prm = y at *
 generalize f * f % prm = z at *
 generalize h * e % prm = m at *
 generalize g * f % prm = n at *
 generalize e0 * e0 = y0 at *
 generalize f0 * f0 = z0 at *
 generalize h0 * e0 = m0 at *
 generalize g0 * f0 = n0 at *
 have hr : Zp ((y - z) % prm - (y0 - z0)) := zp_lin3 1 1 (-1) (zp_emod (y - z)) hy hz (by grind)
 generalize (y - z) % prm = r at *
 generalize y0 - z0 = r0 at *
 have h1 : Zp (121665 * r % prm - 121665 * r0) := zp_lin2 1 121665 (zp_emod (121665 * r)) hr (by grind)
 generalize 121665 * r % prm = q at *
 have h2 : Zp ((y + q) % prm - (y0 + 121665 * r0)) := zp_lin3 1 1 1 (zp_emod (y + q)) hy h1 (by grind)
 generalize (y + q) % prm = w at *
 generalize y0 + 121665 * r0 = w0 at *
 have hp : Zp ((m + n) % prm - (m0 + n0)) := zp_lin3 1 1 1 (zp_emod (m + n)) hm hn (by grind)
 have hq : Zp ((m - n) % prm - (m0 - n0)) := zp_lin3 1 1 (-1) (zp_emod (m - n)) hm hn (by grind)
 generalize (m + n) % prm = p at *
 generalize (m - n) % prm = k at *
 generalize m0 + n0 = p0 at *
 generalize m0 - n0 = k0 at *
 have hk : Zp (k * k % prm - k0 * k0) := zp_lin2 1 (k + k0) (zp_emod (k * k)) hq (by grind)
 generalize k * k % prm = kk at *
 exact ⟨zp_lin3 1 z y0 (zp_emod (y * z)) hy hz (by grind), zp_lin3 1 w r0 (zp_emod (r * w)) hr h2 (by grind), zp_lin2 1 (p + p0) (zp_emod (p * p)) hp (by grind), zp_lin2 1 X (zp_emod (X * kk)) hk (by grind)⟩
theorem near {c : Int} (hc : NonSq c) {P0 : EP c} (n : Nat) : Zp (P0.y * (1 + (c * (EP.mul hc n P0).x * (EP.mul hc (n + 1) P0).x * (EP.mul hc n P0).y * (EP.mul hc (n + 1) P0).y)) - ((EP.mul hc n P0).y * (EP.mul hc (n + 1) P0).y + (EP.mul hc n P0).x * (EP.mul hc (n + 1) P0).x)) := by
 have e : EP.add hc (EP.mul hc (n + 1) P0) (EP.neg (EP.mul hc n P0)) = P0 := by rw [EP.mul]; exact EP.back hc _ _
 have h := EP.add_y hc (EP.mul hc (n + 1) P0) (EP.neg (EP.mul hc n P0))
 rw [e, EP.neg_y] at h
 have g := EP.neg_x (EP.mul hc n P0)
 generalize (EP.neg (EP.mul hc n P0)).x = q at *
 generalize (EP.mul hc n P0).x = x1 at *
 generalize (EP.mul hc n P0).y = y1 at *
 generalize (EP.mul hc (n + 1) P0).x = x2 at *
 generalize (EP.mul hc (n + 1) P0).y = y2 at *
 exact zp_lin2 1 (P0.y * c * x2 * y2 * y1 - x2) h g (by grind)
theorem step_rep {s c : Int} (hc : NonSq c) (hm : Mont s c) {P0 : EP c} {X : Int} (hX : Zp (X * (1 - P0.y) - s * (1 + P0.y))) (nX : ¬ Zp X) (n0 : ¬ Zp (1 - P0.y)) {n : Nat} {a b u v : Int} (hP : Rep s (EP.mul hc n P0) a b) (hQ : Rep s (EP.mul hc (n + 1) P0) u v) (on : Bool) :
 Rep s (EP.mul hc (2 * n + on.toNat) P0) (rnd X on ⟨a, b, u, v⟩).a (rnd X on ⟨a, b, u, v⟩).b ∧ Rep s (EP.mul hc (2 * n + on.toNat + 1) P0) (rnd X on ⟨a, b, u, v⟩).c (rnd X on ⟨a, b, u, v⟩).d := by
 have nr := near hc (P0 := P0) n
 cases on
 ·obtain ⟨k1, k2, k3, k4⟩ := stp_cong X a b u v
  refine ⟨?_, ?_⟩
  ·have := (hP.double hc hm).congr k1 k2
   rwa [← EP.mul_add, show n + n = 2 * n + false.toNat by simp; omega] at this
  ·have := (Rep.diff hc hm.sq hP hQ nr hX nX n0).congr k3 k4
   rwa [← EP.mul_add, show n + (n + 1) = 2 * n + false.toNat + 1 by simp; omega] at this
 ·obtain ⟨k1, k2, k3, k4⟩ := stp_cong X u v a b
  refine ⟨?_, ?_⟩
  ·have := (Rep.diff hc hm.sq hQ hP (zp_lin1 1 nr (by grind)) hX nX n0).congr k3 k4
   rwa [← EP.mul_add, show n + 1 + n = 2 * n + true.toNat by simp; omega] at this
  ·have := (hQ.double hc hm).congr k1 k2
   rwa [← EP.mul_add, show n + 1 + (n + 1) = 2 * n + true.toNat + 1 by simp; omega] at this
theorem bt_nat (N : Nat) (t : Nat) : bt (N : Int) t = decide (N / 2 ^ t % 2 = 1) := by
 unfold bt
 have e : ((N : Int) / 2 ^ t % 2 = 1) = (N / 2 ^ t % 2 = 1) := by
  apply propext
  have : ((N : Int) / 2 ^ t) = ((N / 2 ^ t : Nat) : Int) := by simp
  rw [this]
  omega
 simp only [e]
theorem lad_rep {s c : Int} (hc : NonSq c) (hm : Mont s c) {P0 : EP c} {X : Int} (hX : Zp (X * (1 - P0.y) - s * (1 + P0.y))) (nX : ¬ Zp X) (n0 : ¬ Zp (1 - P0.y)) (N : Nat) (hN : N < 2 ^ 255) : ∀ i, i ≤ 255 → Rep s (EP.mul hc (N / 2 ^ (255 - i)) P0) (lad N X i).a (lad N X i).b ∧ Rep s (EP.mul hc (N / 2 ^ (255 - i) + 1) P0) (lad N X i).c (lad N X i).d := by
 intro i
 induction i with
 | zero =>
  intro _
  have e : N / 2 ^ (255 - 0) = 0 := Nat.div_eq_of_lt hN
  rw [e]
  refine ⟨⟨fun ⟨q, _⟩ => zp_one q, ?_⟩, ?_⟩
  ·show Zp (1 * (1 - 1) - s * 0 * (1 + 1))
   exact zp_lin1 0 zp_zero (by grind)
  ·rw [Nat.zero_add, EP.mul_one]
   refine ⟨fun ⟨_, q⟩ => zp_one q, ?_⟩
   show Zp (X * (1 - P0.y) - s * 1 * (1 + P0.y))
   exact zp_lin1 1 hX (by grind)
 | succ i ih =>
  intro hi
  obtain ⟨r1, r2⟩ := ih (by omega)
  have hb : N / 2 ^ (255 - (i + 1)) = 2 * (N / 2 ^ (255 - i)) + (bt N (254 - i)).toNat := by
   rw [bt_nat]
   have e1 : 255 - (i + 1) = 254 - i := by omega
   have e2 : 255 - i = 254 - i + 1 := by omega
   rw [e1, e2, Nat.pow_succ, ← Nat.div_div_eq_div_mul]
   generalize N / 2 ^ (254 - i) = q
   by_cases h : q % 2 = 1
   ·rw [decide_eq_true h]; simp; omega
   ·rw [decide_eq_false h]; simp; omega
  rw [hb]
  exact step_rep hc hm hX nX n0 r1 r2 (bt N (254 - i))
def Val {c : Int} (s : Int) (P : EP c) (r : Int) : Prop := (0 ≤ r ∧ r < prm) ∧ (Zp (1 - P.y) → r = 0) ∧ (¬ Zp (1 - P.y) → Zp (r * (1 - P.y) - s * (1 + P.y)))
theorem Val.inj {s c : Int} {P : EP c} {r q : Int} (h : Val s P r) (g : Val s P q) : r = q := by
 by_cases e : Zp (1 - P.y)
 ·rw [h.2.1 e, g.2.1 e]
 ·have h1 := h.2.2 e
  have h2 := g.2.2 e
  have : Zp (r - q) := zp_cancel (a := 1 - P.y) (zp_lin2 1 (-1) h1 h2 (by grind)) e
  have := zp_sub.1 this
  rwa [Int.emod_eq_of_lt h.1.1 h.1.2, Int.emod_eq_of_lt g.1.1 g.1.2] at this
end Go.Proofs.YtajaiiidafkijaaDoor
namespace Go.Proofs.YtajaiiidafkijaaDoor
set_option maxRecDepth 100000
def sA : Int := 9094040566125962849133224048217411091405536248825867518642941381412595940312
def ec1 : Int := 20800338683988658368647408995589388737092878452977063003340006470870624536394
theorem sA_sq : Zp (sA * sA - 486664) := by unfold Zp; decide +kernel
theorem ec1_eq : Zp (121666 * ec1 - 121665) := by unfold Zp; decide +kernel
theorem half_486660 : (486660 : Int) ^ 28948022309329048855892746252171976963317496166410141009864396001978282409974 % prm = -1 % prm := by
 rw [pow_nat (m := 486660) (by decide)]
 have : pwf 256 57896044618658097711785492504343953926634992332820282019728792003956564819949 486660 28948022309329048855892746252171976963317496166410141009864396001978282409974 = 57896044618658097711785492504343953926634992332820282019728792003956564819948 := by decide +kernel
 rw [pwf_eq _ _ _ _ (by decide)] at this
 rw [this]; decide
theorem rok_486660 : rok 486660 = false := by
 cases h : rok 486660
 ·rfl
 ·rcases (rok_half 486660).1 h with q | q
  ·exact absurd q (by decide)
  ·rw [half_486660] at q; exact absurd q (by decide)
theorem nonsq_of {c : Int} (h : rok c = false) : NonSq c := fun r hr => by
 have e : rok (r * r) = rok c := rok_c (zp_sub.1 hr)
 rw [rok_sq, h] at e
 cases e
theorem nsq_A : NonSq 486660 := nonsq_of rok_486660
theorem nsq_1 : NonSq ec1 := fun r hr => by
 have h1 := sA_sq
 have h2 := ec1_eq
 generalize sA = q at *
 generalize ec1 = c at *
 exact nsq_A (r * q) (zp_lin3 (q * q) c 4 hr h1 h2 (by grind))
theorem one_ne {c : Int} (hc : NonSq c) : ¬ Zp (1 - c) := fun h => hc 1 (zp_lin1 1 h (by grind))
end Go.Proofs.YtajaiiidafkijaaDoor
namespace Go.Proofs.YtajaiiidafkijaaDoor
set_option maxRecDepth 100000
theorem q1224481 : Pr 1224481 := trial 1224481 1105 (by decide) (by decide +kernel) (by decide)
theorem q531581 : Pr 531581 := trial 531581 728 (by decide) (by decide +kernel) (by decide)
theorem q1257559732178653 : Pr 1257559732178653 := pock2 1257559732178653 1224481 531581 1027014492 2365697292 2 2 q1224481 q531581 (by decide +kernel) (by decide +kernel) (by decide +kernel) (by decide +kernel) (by decide +kernel) (by decide +kernel) (by decide +kernel) (by decide +kernel) (by decide +kernel) (by decide +kernel)
theorem q2 : Pr 2 := trial 2 0 (by decide) (by decide +kernel) (by decide)
theorem q4434155615661930479 : Pr 4434155615661930479 := pock2 4434155615661930479 1257559732178653 2 3526 2217077807830965239 2 17 q1257559732178653 q2 (by decide +kernel) (by decide +kernel) (by decide +kernel) (by decide +kernel) (by decide +kernel) (by decide +kernel) (by decide +kernel) (by decide +kernel) (by decide +kernel) (by decide +kernel)
theorem q172054593956031949258510691 : Pr 172054593956031949258510691 := pock2 172054593956031949258510691 4434155615661930479 2 38802110 86027296978015974629255345 2 2 q4434155615661930479 q2 (by decide +kernel) (by decide +kernel) (by decide +kernel) (by decide +kernel) (by decide +kernel) (by decide +kernel) (by decide +kernel) (by decide +kernel) (by decide +kernel) (by decide +kernel)
theorem q19757330305831588566944191468367130476339 : Pr 19757330305831588566944191468367130476339 := pock2 19757330305831588566944191468367130476339 172054593956031949258510691 2 114831751082918 9878665152915794283472095734183565238169 2 2 q172054593956031949258510691 q2 (by decide +kernel) (by decide +kernel) (by decide +kernel) (by decide +kernel) (by decide +kernel) (by decide +kernel) (by decide +kernel) (by decide +kernel) (by decide +kernel) (by decide +kernel)
theorem q276602624281642239937218680557139826668747 : Pr 276602624281642239937218680557139826668747 := pock2 276602624281642239937218680557139826668747 19757330305831588566944191468367130476339 2 14 138301312140821119968609340278569913334373 2 2 q19757330305831588566944191468367130476339 q2 (by decide +kernel) (by decide +kernel) (by decide +kernel) (by decide +kernel) (by decide +kernel) (by decide +kernel) (by decide +kernel) (by decide +kernel) (by decide +kernel) (by decide +kernel)
theorem q7237005577332262213973186563042994240857116359379907606001950938285454250989 : Pr 7237005577332262213973186563042994240857116359379907606001950938285454250989 := pock2 7237005577332262213973186563042994240857116359379907606001950938285454250989 276602624281642239937218680557139826668747 2 26163907866482859529727157400808004 3618502788666131106986593281521497120428558179689953803000975469142727125494 2 2 q276602624281642239937218680557139826668747 q2 (by decide +kernel) (by decide +kernel) (by decide +kernel) (by decide +kernel) (by decide +kernel) (by decide +kernel) (by decide +kernel) (by decide +kernel) (by decide +kernel) (by decide +kernel)
section
variable {c : Int} (hc : NonSq c)
theorem EP.mul_mod {P : EP c} {m n : Nat} (hm : EP.mul hc m P = EP.zero) (hn : EP.mul hc n P = EP.zero) : EP.mul hc (n % m) P = EP.zero := by
 have e : n = n / m * m + n % m := by rw [Nat.mul_comm]; exact (Nat.div_add_mod n m).symm
 rw [e, EP.mul_add, ← EP.mul_mul, hm, EP.mul_zero_pt, EP.add_comm, EP.add_zero] at hn
 exact hn
theorem EP.mul_gcd {P : EP c} : ∀ m n : Nat, EP.mul hc m P = EP.zero → EP.mul hc n P = EP.zero → EP.mul hc (Nat.gcd m n) P = EP.zero := by
 intro m n
 induction m, n using Nat.gcd.induction with
 | H0 n => intro _ h; simpa using h
 | H1 m n hm ih =>
  intro h1 h2
  rw [Nat.gcd_rec]
  exact ih (EP.mul_mod hc h1 h2) h1
end
def ell : Nat := 7237005577332262213973186563042994240857116359379907606001950938285454250989
theorem ell_prime : Pr ell := q7237005577332262213973186563042994240857116359379907606001950938285454250989
theorem ell_lad : Zp (lad ell 9 255).b := by unfold Zp; decide +kernel
theorem ell_kills {s c : Int} (hc : NonSq c) (hm : Mont s c) {P0 : EP c} (hX : Zp (9 * (1 - P0.y) - s * (1 + P0.y))) (n0 : ¬ Zp (1 - P0.y)) : EP.mul hc ell P0 = EP.zero := by
 have n9 : ¬ Zp 9 := by unfold Zp; decide
 obtain ⟨⟨hn, hr⟩, _⟩ := lad_rep hc hm hX n9 n0 ell (by decide +kernel) 255 (Nat.le_refl _)
 rw [show ell / 2 ^ (255 - 255) = ell by simp] at hr
 have hb := ell_lad
 have on := (EP.mul hc ell P0).on
 have na : ¬ Zp (lad ell 9 255).a := fun h => hn ⟨h, hb⟩
 have h1 : Zp (1 - (EP.mul hc ell P0).y) := zp_cancel (zp_lin2 1 (s * (1 + (EP.mul hc ell P0).y)) hr hb (by grind)) na
 have hx : Zp (EP.mul hc ell P0).x := by
  generalize (EP.mul hc ell P0).x = x at *
  generalize (EP.mul hc ell P0).y = y at *
  have h2 : Zp ((1 - c) * (x * x)) := zp_lin2 1 ((1 + y) * (1 - c * (x * x))) on h1 (by grind)
  exact (zp_or (zp_cancel h2 (one_ne hc))).elim id id
 exact EP.eq (zp_lin1 1 hx (by simp [EP.zero])) (zp_lin1 (-1) h1 (by simp only [EP.zero]; grind))
theorem not_dvd_of_lt {a : Nat} (h0 : 0 < a) (h : a < ell) : ¬ ell ∣ a := fun hd => by have := Nat.le_of_dvd h0 hd; omega
end Go.Proofs.YtajaiiidafkijaaDoor
namespace Go.Proofs.YtajaiiidafkijaaDoor
set_option maxRecDepth 100000
/-! The curve of layer 19: -x^2 + y^2 = 1 + d x^2 y^2 with d = - ec1, as an Edwards curve whose x is ii times as much. -/
def ii : Int := 19681161376707505956807079304988542015446066515923890162744021073123829784752
theorem ii_sq : Zp (ii * ii + 1) := by unfold Zp; decide +kernel
abbrev E1 := EP ec1
theorem zp_lin5 {h1 h2 h3 h4 h5 g : Int} (k1 k2 k3 k4 k5 : Int) (a1 : Zp h1) (a2 : Zp h2) (a3 : Zp h3) (a4 : Zp h4) (a5 : Zp h5) (e : g = k1 * h1 + k2 * h2 + k3 * h3 + k4 * h4 + k5 * h5) : Zp g := e ▸ zp_add (zp_lin4 k1 k2 k3 k4 a1 a2 a3 a4 rfl) (zp_mul k5 a5)
theorem zp_cg {a b : Int} (h : Zp (a - b)) (hb : ¬ Zp b) : ¬ Zp a := fun ha => hb (zp_lin2 1 (-1) ha h (by grind))
def tx (P : E1) : Int := -(ii * P.x) % prm
theorem prm_pos : (0 : Int) < prm := by decide
theorem tx_bd (P : E1) : 0 ≤ tx P ∧ tx P < prm := ⟨Int.emod_nonneg _ (by decide), Int.emod_lt_of_pos _ prm_pos⟩
theorem y_bd (P : E1) : 0 ≤ P.y ∧ P.y < prm := by rw [← P.hy]; exact ⟨Int.emod_nonneg _ (by decide), Int.emod_lt_of_pos _ prm_pos⟩
theorem tx_ii (P : E1) : Zp (tx P + ii * P.x) := zp_lin1 1 (zp_emod (-(ii * P.x))) (by unfold tx; grind)
theorem x_tx (P : E1) : Zp (P.x - ii * tx P) := by
 have h1 := tx_ii P
 have h2 := ii_sq
 generalize tx P = t at *
 generalize ii = i at *
 exact zp_lin2 (-i) P.x h1 h2 (by grind)
theorem tw_on (P : E1) : Zp (P.y * P.y - tx P * tx P - 1 + ec1 * tx P * tx P * P.y * P.y) := by
 have h0 := P.on
 have h1 := x_tx P
 have h2 := ii_sq
 generalize tx P = t at *
 generalize ii = i at *
 generalize P.x = x at *
 generalize P.y = y at *
 generalize ec1 = c at *
 exact zp_lin3 1 (-(1 - c * y * y) * (x + i * t)) (-(1 - c * y * y) * (t * t)) h0 h1 h2 (by grind)
theorem tw_prod (P Q : E1) : Zp (P.x * Q.x + tx P * tx Q) := by
 have h1 := x_tx P
 have h2 := x_tx Q
 have h3 := ii_sq
 generalize tx P = t at *
 generalize tx Q = u at *
 generalize ii = i at *
 exact zp_lin3 Q.x (i * t) (t * u) h1 h2 h3 (by grind)
theorem tw_den1 (P Q : E1) : ¬ Zp (1 - ec1 * tx P * tx Q * P.y * Q.y) := by
 refine zp_cg ?_ (ed_plus nsq_1 P.on Q.on)
 have h := tw_prod P Q
 generalize tx P = t at *
 generalize tx Q = u at *
 generalize P.x = x1 at *
 generalize Q.x = x2 at *
 generalize P.y = y1 at *
 generalize Q.y = y2 at *
 generalize ec1 = c at *
 exact zp_lin1 (-(c * y1 * y2)) h (by grind)
theorem tw_den2 (P Q : E1) : ¬ Zp (1 + ec1 * tx P * tx Q * P.y * Q.y) := by
 refine zp_cg ?_ (ed_minus nsq_1 P.on Q.on)
 have h := tw_prod P Q
 generalize tx P = t at *
 generalize tx Q = u at *
 generalize P.x = x1 at *
 generalize Q.x = x2 at *
 generalize P.y = y1 at *
 generalize Q.y = y2 at *
 generalize ec1 = c at *
 exact zp_lin1 (c * y1 * y2) h (by grind)
def pl (P Q : E1) : E1 := EP.add nsq_1 P Q
theorem pl_x (P Q : E1) : Zp (tx (pl P Q) * (1 - ec1 * tx P * tx Q * P.y * Q.y) - (tx P * Q.y + P.y * tx Q)) := by
 have hA := EP.add_x nsq_1 P Q
 have h1 := x_tx P
 have h2 := x_tx Q
 have h3 := tx_ii (pl P Q)
 have h4 := ii_sq
 unfold pl at *
 generalize EP.add nsq_1 P Q = R at *
 generalize tx P = t1 at *
 generalize tx Q = t2 at *
 generalize tx R = t3 at *
 generalize ii = i at *
 generalize P.x = x1 at *
 generalize P.y = y1 at *
 generalize Q.x = x2 at *
 generalize Q.y = y2 at *
 generalize R.x = x3 at *
 generalize ec1 = c at *
 exact zp_lin5 (-i) (i * x3 * (c * y1 * y2) * x2 - i * y2) (i * x3 * (c * y1 * y2) * (i * t1) - i * y1) (1 - c * y1 * y2 * t1 * t2) (i * x3 * (c * y1 * y2) * t1 * t2 - t1 * y2 - y1 * t2) hA h1 h2 h3 h4 (by grind)
theorem pl_y (P Q : E1) : Zp ((pl P Q).y * (1 + ec1 * tx P * tx Q * P.y * Q.y) - (P.y * Q.y + tx P * tx Q)) := by
 have hA := EP.add_y nsq_1 P Q
 have h := tw_prod P Q
 unfold pl at *
 generalize EP.add nsq_1 P Q = R at *
 generalize tx P = t1 at *
 generalize tx Q = t2 at *
 generalize P.x = x1 at *
 generalize P.y = y1 at *
 generalize Q.x = x2 at *
 generalize Q.y = y2 at *
 generalize R.y = y3 at *
 generalize ec1 = c at *
 exact zp_lin2 1 (y3 * c * y1 * y2 - 1) hA h (by grind)
def Sp (P : E1) (X Y Z T : Int) : Prop := ¬ Zp Z ∧ Zp (X - Z * tx P) ∧ Zp (Y - Z * P.y) ∧ Zp (T - Z * (tx P * P.y))
theorem sp_shared {P : E1} {a b c d : Int} (hb : ¬ Zp b) (hd : ¬ Zp d) (h1 : Zp (tx P * b - a)) (h2 : Zp (P.y * d - c)) : Sp P (a * d) (c * b) (b * d) (a * c) := by
 refine ⟨zp_ne_mul hb hd, ?_, ?_, ?_⟩
 ·generalize tx P = t at *; exact zp_lin1 (-d) h1 (by grind)
 ·generalize tx P = t at *; exact zp_lin1 (-b) h2 (by grind)
 ·generalize tx P = t at *; exact zp_lin2 (-c) (-(t * b)) h1 h2 (by grind)
theorem n243332 : ¬ Zp 243332 := by unfold Zp; decide
theorem sp_over {k N D a b : Int} (t : Int) (hk : ¬ Zp k) (hD : ¬ Zp D) (h : Zp (t * D - N)) (ha : Zp (a - k * N)) (hb : Zp (b - k * D)) : ¬ Zp b ∧ Zp (t * b - a) :=
 ⟨zp_cg hb (zp_ne_mul hk hD), zp_lin3 k (-1) t h ha hb (by grind)⟩
theorem sp_plus {P Q : E1} {X1 Y1 Z1 T1 X2 Y2 Z2 T2 : Int} (hP : Sp P X1 Y1 Z1 T1) (hQ : Sp Q X2 Y2 Z2 T2) :
 Sp (pl P Q) (((Y1 + X1) * ((Y2 + X2) * 121666) - (Y1 - X1) * ((Y2 - X2) * 121666)) * (Z1 * (Z2 * 243332) + T1 * (T2 * 243330)))
  (((Y1 + X1) * ((Y2 + X2) * 121666) + (Y1 - X1) * ((Y2 - X2) * 121666)) * (Z1 * (Z2 * 243332) - T1 * (T2 * 243330)))
  ((Z1 * (Z2 * 243332) - T1 * (T2 * 243330)) * (Z1 * (Z2 * 243332) + T1 * (T2 * 243330)))
  (((Y1 + X1) * ((Y2 + X2) * 121666) - (Y1 - X1) * ((Y2 - X2) * 121666)) * ((Y1 + X1) * ((Y2 + X2) * 121666) + (Y1 - X1) * ((Y2 - X2) * 121666))) := by
 obtain ⟨n1, a1, b1, c1⟩ := hP
 obtain ⟨n2, a2, b2, c2⟩ := hQ
 have hx := pl_x P Q
 have hy := pl_y P Q
 have d1 := tw_den1 P Q
 have d2 := tw_den2 P Q
 have hk : ¬ Zp (243332 * (Z1 * Z2)) := zp_ne_mul n243332 (zp_ne_mul n1 n2)
 have he := ec1_eq
 generalize pl P Q = R at *
 generalize hu : tx R = u at *
 generalize tx P = t1 at *
 generalize tx Q = t2 at *
 generalize P.y = y1 at *
 generalize Q.y = y2 at *
 generalize hv : R.y = ry at *
 have hA : Zp (((Y1 + X1) * ((Y2 + X2) * 121666) - (Y1 - X1) * ((Y2 - X2) * 121666)) - 243332 * (Z1 * Z2) * (t1 * y2 + y1 * t2)) :=
  zp_lin4 (243332 * Y2) (243332 * X2) (243332 * Z1 * y1) (243332 * Z1 * t1) a1 b1 a2 b2 (by grind)
 have hC : Zp (((Y1 + X1) * ((Y2 + X2) * 121666) + (Y1 - X1) * ((Y2 - X2) * 121666)) - 243332 * (Z1 * Z2) * (y1 * y2 + t1 * t2)) :=
  zp_lin4 (243332 * X2) (243332 * Y2) (243332 * Z1 * t1) (243332 * Z1 * y1) a1 b1 a2 b2 (by grind)
 have hB : Zp ((Z1 * (Z2 * 243332) - T1 * (T2 * 243330)) - 243332 * (Z1 * Z2) * (1 - ec1 * t1 * t2 * y1 * y2)) :=
  zp_lin3 (-243330 * T2) (-243330 * Z1 * (t1 * y1)) (2 * Z1 * Z2 * t1 * t2 * y1 * y2) c1 c2 he (by grind)
 have hD : Zp ((Z1 * (Z2 * 243332) + T1 * (T2 * 243330)) - 243332 * (Z1 * Z2) * (1 + ec1 * t1 * t2 * y1 * y2)) :=
  zp_lin3 (243330 * T2) (243330 * Z1 * (t1 * y1)) (-2 * Z1 * Z2 * t1 * t2 * y1 * y2) c1 c2 he (by grind)
 obtain ⟨m1, q1⟩ := sp_over u hk d1 hx hA hB
 obtain ⟨m2, q2⟩ := sp_over ry hk d2 hy hC hD
 exact sp_shared m1 m2 (by rw [hu]; exact q1) (by rw [hv]; exact q2)
theorem sp_twice {P : E1} {X Y Z T : Int} (hP : Sp P X Y Z T) :
 Sp (pl P P) (((X + Y) * (X + Y) - (Y * Y + X * X)) * (Z * Z * 2 - (Y * Y - X * X))) ((Y * Y + X * X) * (Y * Y - X * X)) ((Y * Y - X * X) * (Z * Z * 2 - (Y * Y - X * X))) (((X + Y) * (X + Y) - (Y * Y + X * X)) * (Y * Y + X * X)) := by
 obtain ⟨n1, a1, b1, c1⟩ := hP
 have hx := pl_x P P
 have hy := pl_y P P
 have d1 := tw_den1 P P
 have d2 := tw_den2 P P
 have ho := tw_on P
 have hk : ¬ Zp (Z * Z) := zp_ne_mul n1 n1
 generalize pl P P = R at *
 generalize hu : tx R = u at *
 generalize tx P = t at *
 generalize P.y = y at *
 generalize hv : R.y = ry at *
 have hA : Zp (((X + Y) * (X + Y) - (Y * Y + X * X)) - Z * Z * (t * y + y * t)) := zp_lin2 (2 * Y) (2 * (Z * t)) a1 b1 (by grind)
 have hB : Zp ((Y * Y - X * X) - Z * Z * (1 - ec1 * t * t * y * y)) := zp_lin3 (-(X + Z * t)) (Y + Z * y) (Z * Z) a1 b1 ho (by grind)
 have hC : Zp ((Y * Y + X * X) - Z * Z * (y * y + t * t)) := zp_lin2 (X + Z * t) (Y + Z * y) a1 b1 (by grind)
 have hD : Zp ((Z * Z * 2 - (Y * Y - X * X)) - Z * Z * (1 + ec1 * t * t * y * y)) := zp_lin3 (X + Z * t) (-(Y + Z * y)) (-(Z * Z)) a1 b1 ho (by grind)
 obtain ⟨m1, q1⟩ := sp_over u hk d1 hx hA hB
 obtain ⟨m2, q2⟩ := sp_over ry hk d2 hy hC hD
 exact sp_shared m1 m2 (by rw [hu]; exact q1) (by rw [hv]; exact q2)
def ng (P : E1) : E1 := EP.neg P
theorem tx_ng (P : E1) : Zp (tx (ng P) + tx P) := by
 have h1 := EP.neg_x P
 have h2 := tx_ii P
 have h3 := tx_ii (ng P)
 unfold ng at *
 generalize EP.neg P = R at *
 generalize tx P = t at *
 generalize tx R = u at *
 generalize ii = i at *
 exact zp_lin3 (-i) 1 1 h1 h2 h3 (by grind)
theorem y_ng (P : E1) : (ng P).y = P.y := rfl
theorem sp_neg {P : E1} {X Y Z T : Int} (hP : Sp P X Y Z T) : Sp (ng P) (-X) Y Z (-T) := by
 obtain ⟨n1, a1, b1, c1⟩ := hP
 have h := tx_ng P
 refine ⟨n1, ?_, ?_, ?_⟩
 ·generalize tx P = t at *; generalize tx (ng P) = u at *; exact zp_lin2 (-1) (-Z) a1 h (by grind)
 ·rw [y_ng]; exact b1
 ·rw [y_ng]; generalize tx P = t at *; generalize tx (ng P) = u at *; exact zp_lin2 (-1) (-(Z * P.y)) c1 h (by grind)
def ze : E1 := EP.zero
theorem tx_ze : tx ze = 0 := by decide +kernel
theorem sp_ze : Sp ze 0 1 1 0 := by
 refine ⟨zp_one, ?_, ?_, ?_⟩
 ·rw [tx_ze]; exact zp_zero
 ·exact zp_zero
 ·rw [tx_ze]; exact zp_zero
theorem sp_flat {P : E1} {X Y : Int} (hx : Zp (X - tx P)) (hy : Zp (Y - P.y)) : Sp P X Y 1 (X * Y) := by
 refine ⟨zp_one, ?_, ?_, ?_⟩
 ·exact zp_lin1 1 hx (by grind)
 ·exact zp_lin1 1 hy (by grind)
 ·generalize tx P = t at *; exact zp_lin2 Y t hx hy (by grind)
theorem Sp.cong {P : E1} {X Y Z T X' Y' Z' T' : Int} (h : Sp P X Y Z T) (hx : Zp (X' - X)) (hy : Zp (Y' - Y)) (hz : Zp (Z' - Z)) (ht : Zp (T' - T)) : Sp P X' Y' Z' T' := by
 obtain ⟨n1, a1, b1, c1⟩ := h
 refine ⟨zp_cg hz n1, ?_, ?_, ?_⟩
 ·generalize tx P = t at *; exact zp_lin3 1 1 (-t) a1 hx hz (by grind)
 ·exact zp_lin3 1 1 (-P.y) b1 hy hz (by grind)
 ·generalize tx P = t at *; exact zp_lin3 1 1 (-(t * P.y)) c1 ht hz (by grind)
theorem E1.eq {P Q : E1} (h1 : Zp (tx P - tx Q)) (h2 : Zp (P.y - Q.y)) : P = Q := by
 refine EP.eq ?_ h2
 have a := x_tx P
 have b := x_tx Q
 generalize tx P = t at *; generalize tx Q = u at *; generalize ii = i at *
 exact zp_lin3 1 (-1) i a b h1 (by grind)
theorem zp_small {a : Int} (h0 : 0 ≤ a) (h1 : a < prm) (h : Zp a) : a = 0 := by
 unfold Zp at h; rw [Int.emod_eq_of_lt h0 h1] at h; exact h
theorem E1.eq' {P Q : E1} (h1 : tx P = tx Q) (h2 : P.y = Q.y) : P = Q := E1.eq (by rw [h1, Int.sub_self]; exact zp_zero) (by rw [h2, Int.sub_self]; exact zp_zero)
theorem sp_eq {P Q : E1} {X1 Y1 Z1 T1 X2 Y2 Z2 T2 : Int} (hP : Sp P X1 Y1 Z1 T1) (hQ : Sp Q X2 Y2 Z2 T2) : (X1 * Z2 % prm = X2 * Z1 % prm ∧ Y1 * Z2 % prm = Y2 * Z1 % prm) ↔ P = Q := by
 obtain ⟨n1, a1, b1, c1⟩ := hP
 obtain ⟨n2, a2, b2, c2⟩ := hQ
 rw [← zp_sub, ← zp_sub]
 constructor
 ·rintro ⟨hx, hy⟩
  refine E1.eq (zp_cancel ?_ (zp_ne_mul n1 n2)) (zp_cancel ?_ (zp_ne_mul n1 n2))
  ·generalize tx P = t at *; generalize tx Q = u at *; exact zp_lin3 1 (-Z2) Z1 hx a1 a2 (by grind)
  ·exact zp_lin3 1 (-Z2) Z1 hy b1 b2 (by grind)
 ·rintro rfl
  constructor
  ·generalize tx P = t at *; exact zp_lin2 Z2 (-Z1) a1 a2 (by grind)
  ·exact zp_lin2 Z2 (-Z1) b1 b2 (by grind)
theorem mod_of {a b : Int} (h : Zp (a - b)) (h0 : 0 ≤ b) (h1 : b < prm) : a % prm = b := by rw [zp_sub.1 h, Int.emod_eq_of_lt h0 h1]
theorem sp_y {P : E1} {X Y Z T : Int} (hP : Sp P X Y Z T) : Y * iv Z % prm = P.y := by
 obtain ⟨n1, a1, b1, c1⟩ := hP
 have h := iv_mul n1
 generalize iv Z = z at *
 exact mod_of (zp_lin2 z P.y b1 h (by grind)) (y_bd P).1 (y_bd P).2
theorem sp_x {P : E1} {X Y Z T : Int} (hP : Sp P X Y Z T) : X * iv Z % prm = tx P := by
 obtain ⟨n1, a1, b1, c1⟩ := hP
 have h := iv_mul n1
 have hb := tx_bd P
 generalize iv Z = z at *
 generalize tx P = t at *
 exact mod_of (zp_lin2 z t a1 h (by grind)) hb.1 hb.2
theorem iv_cong {a b : Int} (h : Zp (a - b)) : Zp (iv a - iv b) := by
 rw [zp_sub] at *
 unfold iv
 exact pow_c h _
theorem iv_prod (a b : Int) : iv (a * b) = iv a * iv b := by unfold iv; exact Int.mul_pow
def pb (P : E1) : Int := P.y + 57896044618658097711785492504343953926634992332820282019728792003956564819968 * (tx P % 2)
theorem prm_is : prm = 57896044618658097711785492504343953926634992332820282019728792003956564819949 := by decide
theorem pb_bd (P : E1) : 0 ≤ pb P ∧ pb P < 115792089237316195423570985008687907853269984665640564039457584007913129639936 := by
 have h1 := y_bd P
 have h2 : 0 ≤ tx P % 2 ∧ tx P % 2 < 2 := ⟨Int.emod_nonneg _ (by decide), Int.emod_lt_of_pos _ (by decide)⟩
 rw [prm_is] at h1
 unfold pb
 omega
end Go.Proofs.YtajaiiidafkijaaDoor
namespace Go.Proofs.YtajaiiidafkijaaDoor
set_option maxRecDepth 100000
theorem mkE_on {X Y : Int} (h : Zp (Y * Y - X * X - 1 + ec1 * X * X * Y * Y)) : Zp ((ii * X % prm) * (ii * X % prm) + (Y % prm) * (Y % prm) - 1 - ec1 * (ii * X % prm) * (ii * X % prm) * (Y % prm) * (Y % prm)) := by
 have h1 := zp_emod (ii * X)
 have h2 := zp_emod Y
 have h3 := ii_sq
 generalize ii * X % prm = x at *
 generalize Y % prm = y at *
 generalize ii = i at *
 generalize ec1 = c at *
 exact zp_lin4 1 ((1 - c * y * y) * (x + i * X)) ((1 - c * y * y) * (X * X)) ((1 + c * X * X) * (y + Y)) h h1 h3 h2 (by grind)
def mkE (X Y : Int) (h : Zp (Y * Y - X * X - 1 + ec1 * X * X * Y * Y)) : E1 := ⟨ii * X % prm, Y % prm, Int.emod_emod _ _, Int.emod_emod _ _, mkE_on h⟩
theorem mkE_tx {X Y : Int} (h : Zp (Y * Y - X * X - 1 + ec1 * X * X * Y * Y)) : tx (mkE X Y h) = X % prm := by
 have h1 := zp_emod (ii * X)
 have h3 := ii_sq
 show -(ii * (ii * X % prm)) % prm = X % prm
 rw [← zp_sub]
 generalize ii * X % prm = x at *
 generalize ii = i at *
 exact zp_lin2 (-i) (-X) h1 h3 (by grind)
theorem den_y (y : Int) : ¬ Zp (1 - ec1 * (y * y)) := fun h => by
 have hy : ¬ Zp y := fun g => zp_one (zp_lin2 1 (ec1 * y) h g (by grind))
 have h2 := iv_mul hy
 have n := nsq_1 (iv y)
 generalize iv y = z at *
 generalize ec1 = c at *
 exact n (zp_lin2 (z * z) (c * (y * z + 1)) h h2 (by grind))
def qy (y : Int) : Int := (y * y - 1) * iv (1 - ec1 * (y * y))
theorem qy_spec (y : Int) : Zp (qy y * (1 - ec1 * (y * y)) - (y * y - 1)) := by
 have h := iv_mul (den_y y)
 unfold qy
 generalize iv (1 - ec1 * (y * y)) = z at *
 generalize ec1 = c at *
 exact zp_lin1 (y * y - 1) h (by grind)
theorem qy_cong {y z : Int} (h : Zp (y - z)) : Zp (qy y - qy z) := by
 have hs : Zp (y * y - z * z) := zp_lin1 (y + z) h (by grind)
 have hi : Zp (iv (1 - ec1 * (y * y)) - iv (1 - ec1 * (z * z))) := iv_cong (by generalize ec1 = c; exact zp_lin1 (-c) hs (by grind))
 unfold qy
 generalize iv (1 - ec1 * (y * y)) = a at *
 generalize iv (1 - ec1 * (z * z)) = b at *
 exact zp_lin2 a (z * z - 1) hs hi (by grind)
theorem qy_is {y a u : Int} (hu : ¬ Zp u) (h1 : Zp (a - u * (y * y - 1))) (b : Int) (h2 : Zp (b - u * (1 - ec1 * (y * y)))) : Zp (a * iv b - qy y) := by
 have h3 := iv_mul hu
 have h4 : Zp (iv b - iv u * iv (1 - ec1 * (y * y))) := by rw [← iv_prod]; exact iv_cong h2
 unfold qy
 generalize iv (1 - ec1 * (y * y)) = z at *
 generalize iv b = w at *
 generalize iv u = v at *
 exact zp_lin3 w ((y * y - 1) * z) (u * (y * y - 1)) h1 h3 h4 (by grind)
theorem tx_qy (P : E1) : Zp (tx P * tx P - qy P.y) := by
 have h1 := tw_on P
 have h2 := qy_spec P.y
 have hd := den_y P.y
 generalize qy P.y = q at *
 generalize tx P = t at *
 generalize P.y = y at *
 generalize ec1 = c at *
 exact zp_cancel (a := 1 - c * (y * y)) (zp_lin2 (-1) (-1) h1 h2 (by grind)) hd
theorem rok_of_sq {a r : Int} (h : Zp (r * r - a)) : rok a = true := by rw [← rok_c (zp_sub.1 h)]; exact rok_sq r
theorem sq_cases {a b : Int} (h : Zp (a * a - b * b)) : Zp (a - b) ∨ Zp (a + b) := zp_or (zp_lin1 1 h (by grind))
theorem zp_two_of {a : Int} (h0 : 0 ≤ a) (h1 : a < prm + prm) (h : Zp a) : a = 0 ∨ a = prm := by
 by_cases g : a < prm
 ·exact Or.inl (zp_small h0 g h)
 ·have hp : Zp prm := by unfold Zp; decide
  have := zp_small (a := a - prm) (by omega) (by omega) (zp_lin2 1 (-1) h hp (by grind))
  exact Or.inr (by omega)
theorem neg_par {r : Int} (h : ¬ r % prm = 0) (he : r % prm % 2 = 0) : -r % prm % 2 = 1 := by
 have b0 : 0 ≤ r % prm := Int.emod_nonneg _ (by decide)
 have b1 : r % prm < prm := Int.emod_lt_of_pos _ prm_pos
 have hp : Zp prm := by unfold Zp; decide
 have e : -r % prm = prm - r % prm := mod_of (by have := zp_emod r; generalize r % prm = m at *; exact zp_lin2 1 (-1) this hp (by grind)) (by omega) (by omega)
 rw [e]
 generalize r % prm = m at *
 rw [prm_is] at *
 omega
theorem par_eq {t r : Int} (h : Zp (t * t - r * r)) (ht : 0 ≤ t ∧ t < prm) (hr : 0 ≤ r ∧ r < prm) (hp : t % 2 = r % 2) : t = r := by
 rw [prm_is] at ht hr
 rcases sq_cases h with g | g
 ·have := mod_of (a := t) (b := r) g (by omega) (by rw [prm_is]; omega)
  rw [Int.emod_eq_of_lt ht.1 (by rw [prm_is]; omega)] at this
  exact this
 ·rcases zp_two_of (by omega) (by rw [prm_is]; omega) g with e | e
  ·omega
  ·rw [prm_is] at e; omega
def has (y : Int) (odd : Bool) : Bool := rok (qy y) && !(decide (rval (qy y) % prm = 0) && odd)
def xo (y : Int) (odd : Bool) : Int := if odd = true then -(rval (qy y)) else rval (qy y)
def od (b : Bool) : Int := if b = true then 1 else 0
theorem has_some {y : Int} {odd : Bool} (h : has y odd = true) : ∃ P : E1, P.y = y % prm ∧ tx P = xo y odd % prm ∧ tx P % 2 = od odd := by
 unfold has at h
 rw [Bool.and_eq_true] at h
 obtain ⟨h1, h2⟩ := h
 have hs : Zp (rval (qy y) * rval (qy y) - qy y) := zp_sub.2 (rval_sq h1)
 have he := rval_even (qy y)
 have hq := qy_spec y
 have hx : Zp (xo y odd * xo y odd - qy y) := by unfold xo; cases odd <;> simp only [if_true, if_false, Bool.false_eq_true] <;> generalize rval (qy y) = r at * <;> exact zp_lin1 1 hs (by grind)
 have hon : Zp (y * y - xo y odd * xo y odd - 1 + ec1 * xo y odd * xo y odd * y * y) := by
  generalize xo y odd = x at *
  generalize qy y = q at *
  generalize ec1 = c at *
  exact zp_lin2 (-1) (-(1 - c * (y * y))) hq hx (by grind)
 refine ⟨mkE _ y hon, rfl, mkE_tx hon, ?_⟩
 rw [mkE_tx]
 cases odd with
 | false =>
  simp only [xo, od, if_false, Bool.false_eq_true]
  exact he
 | true =>
  simp only [xo, od, if_true]
  have hz : ¬ rval (qy y) % prm = 0 := by intro g; rw [decide_eq_true g] at h2; simp at h2
  exact neg_par hz he
theorem has_none {y : Int} {odd : Bool} (h : has y odd = false) (P : E1) (hP : P.y = y % prm) : tx P % 2 ≠ od odd := by
 have h1 := tx_qy P
 have h2 : Zp (qy P.y - qy y) := qy_cong (by rw [hP]; exact zp_emod y)
 have hr : rok (qy y) = true := rok_of_sq (r := tx P) (by generalize tx P = t at *; exact zp_lin2 1 1 h1 h2 (by grind))
 unfold has at h
 rw [hr, Bool.true_and] at h
 have h3 : (decide (rval (qy y) % prm = 0) && odd) = true := by revert h; cases (decide (rval (qy y) % prm = 0) && odd) <;> simp
 rw [Bool.and_eq_true] at h3
 have hz := of_decide_eq_true h3.1
 have hs : Zp (rval (qy y) * rval (qy y) - qy y) := zp_sub.2 (rval_sq hr)
 have ht : Zp (tx P) := by
  have g : Zp (tx P * tx P) := by
   generalize tx P = t at *
   generalize rval (qy y) = r at *
   exact zp_lin4 1 1 (-1) r h1 h2 hs (show Zp r from hz) (by grind)
  exact (zp_or g).elim id id
 have := zp_small (tx_bd P).1 (tx_bd P).2 ht
 rw [this, h3.2]
 decide
theorem pb_inj {P Q : E1} (h : pb P = pb Q) : P = Q := by
 have h1 := y_bd P
 have h2 := y_bd Q
 have h3 : 0 ≤ tx P % 2 ∧ tx P % 2 < 2 := ⟨Int.emod_nonneg _ (by decide), Int.emod_lt_of_pos _ (by decide)⟩
 have h4 : 0 ≤ tx Q % 2 ∧ tx Q % 2 < 2 := ⟨Int.emod_nonneg _ (by decide), Int.emod_lt_of_pos _ (by decide)⟩
 have hy : P.y = Q.y := by unfold pb at h; rw [prm_is] at h1 h2; omega
 have hp : tx P % 2 = tx Q % 2 := by unfold pb at h; rw [hy] at h; omega
 refine E1.eq' (par_eq ?_ (tx_bd P) (tx_bd Q) hp) hy
 have a := tx_qy P
 have b := tx_qy Q
 rw [hy] at a
 generalize tx P = t at *
 generalize tx Q = u at *
 exact zp_lin2 1 (-1) a b (by grind)
open Classical in
noncomputable def pp (N : Int) : E1 := if h : ∃ P, pb P = N then Classical.choose h else ze
open Classical in
noncomputable def pe (N : Int) : Int := if ∃ P, pb P = N then 0 else 190
theorem pp_pb (P : E1) : pp (pb P) = P := by
 unfold pp
 have h : ∃ Q, pb Q = pb P := ⟨P, rfl⟩
 rw [dif_pos h]
 exact pb_inj (Classical.choose_spec h)
theorem pe_pb (P : E1) : pe (pb P) = 0 := by unfold pe; rw [if_pos ⟨P, rfl⟩]
theorem pe_no {N : Int} (h : ∀ P, pb P ≠ N) : pe N = 190 ∧ pp N = ze := by
 have g : ¬ ∃ P, pb P = N := fun ⟨P, e⟩ => h P e
 exact ⟨by unfold pe; rw [if_neg g], by unfold pp; rw [dif_neg g]⟩
theorem pe_or (N : Int) : (∃ P, pb P = N ∧ pp N = P ∧ pe N = 0) ∨ ((∀ P, pb P ≠ N) ∧ pp N = ze ∧ pe N = 190) := by
 by_cases h : ∃ P, pb P = N
 ·obtain ⟨P, rfl⟩ := h
  exact Or.inl ⟨P, rfl, pp_pb P, pe_pb P⟩
 ·have g : ∀ P, pb P ≠ N := fun P e => h ⟨P, e⟩
  exact Or.inr ⟨g, (pe_no g).2, (pe_no g).1⟩
theorem pp_yes {N : Int} (h0 : 0 ≤ N) (h1 : N < 115792089237316195423570985008687907853269984665640564039457584007913129639936) (hl : N % 57896044618658097711785492504343953926634992332820282019728792003956564819968 < prm) (h : has (N % 57896044618658097711785492504343953926634992332820282019728792003956564819968) (decide (57896044618658097711785492504343953926634992332820282019728792003956564819968 ≤ N)) = true) :
 pe N = 0 ∧ (pp N).y = N % 57896044618658097711785492504343953926634992332820282019728792003956564819968 ∧ tx (pp N) = xo (N % 57896044618658097711785492504343953926634992332820282019728792003956564819968) (decide (57896044618658097711785492504343953926634992332820282019728792003956564819968 ≤ N)) % prm := by
 obtain ⟨P, hy, hx, hp⟩ := has_some h
 have hm : P.y = N % 57896044618658097711785492504343953926634992332820282019728792003956564819968 := by rw [hy, Int.emod_eq_of_lt (by omega) hl]
 have hb : pb P = N := by
  unfold pb
  rw [hm, hp]
  by_cases g : 57896044618658097711785492504343953926634992332820282019728792003956564819968 ≤ N
  ·rw [decide_eq_true g]; simp only [od, if_true]; omega
  ·rw [decide_eq_false g]; simp only [od, Bool.false_eq_true, if_false]; omega
 rw [← hb, pe_pb, pp_pb, hb]
 exact ⟨rfl, hm, hx⟩
theorem pp_no {N : Int} (h0 : 0 ≤ N) (h1 : N < 115792089237316195423570985008687907853269984665640564039457584007913129639936) (h : (decide (N % 57896044618658097711785492504343953926634992332820282019728792003956564819968 < prm) && has (N % 57896044618658097711785492504343953926634992332820282019728792003956564819968) (decide (57896044618658097711785492504343953926634992332820282019728792003956564819968 ≤ N))) = false) : pe N = 190 ∧ pp N = ze := by
 refine pe_no fun P hb => ?_
 have b1 := y_bd P
 have b2 : 0 ≤ tx P % 2 ∧ tx P % 2 < 2 := ⟨Int.emod_nonneg _ (by decide), Int.emod_lt_of_pos _ (by decide)⟩
 have hN : N = P.y + 57896044618658097711785492504343953926634992332820282019728792003956564819968 * (tx P % 2) := hb.symm
 have hl : N % 57896044618658097711785492504343953926634992332820282019728792003956564819968 = P.y := by rw [prm_is] at b1; omega
 rw [hl, decide_eq_true b1.2, Bool.true_and] at h
 refine has_none h P (Int.emod_eq_of_lt b1.1 b1.2).symm ?_
 rw [prm_is] at b1
 by_cases g : 57896044618658097711785492504343953926634992332820282019728792003956564819968 ≤ N
 ·rw [decide_eq_true g]; simp only [od, if_true]; omega
 ·rw [decide_eq_false g]; simp only [od, Bool.false_eq_true, if_false]; omega
def ml (n : Nat) (P : E1) : E1 := EP.mul nsq_1 n P
theorem ml_zero (P : E1) : ml 0 P = ze := rfl
theorem ml_one (P : E1) : ml 1 P = P := EP.mul_one nsq_1 P
theorem ml_add (m n : Nat) (P : E1) : ml (m + n) P = pl (ml m P) (ml n P) := EP.mul_add nsq_1 m n P
theorem ml_ml (m n : Nat) (P : E1) : ml m (ml n P) = ml (m * n) P := EP.mul_mul nsq_1 m n P
theorem ml_two (n : Nat) (P : E1) : pl (ml n P) (ml n P) = ml (2 * n) P := by rw [Nat.two_mul, ml_add]
theorem ml_next (n : Nat) (P : E1) : pl (ml n P) P = ml (n + 1) P := by rw [ml_add, ml_one]
theorem ml_ze (n : Nat) : ml n ze = ze := EP.mul_zero_pt nsq_1 n
theorem pl_comm (P Q : E1) : pl P Q = pl Q P := EP.add_comm nsq_1 P Q
theorem pl_assoc (P Q R : E1) : pl (pl P Q) R = pl P (pl Q R) := EP.add_assoc nsq_1 P Q R
theorem pl_ze (P : E1) : pl P ze = P := EP.add_zero nsq_1 P
theorem ze_pl (P : E1) : pl ze P = P := by rw [pl_comm, pl_ze]
theorem pl_ng (P : E1) : pl P (ng P) = ze := EP.add_neg nsq_1 P
theorem pl_back (P Q : E1) : pl (pl P (ng Q)) Q = P := by rw [pl_assoc, pl_comm (ng Q), pl_ng, pl_ze]
theorem pl_cancel {P Q R : E1} (h : pl P R = pl Q R) : P = Q := by
 have := congrArg (fun X => pl X (ng R)) h
 simpa only [pl_assoc, pl_ng, pl_ze] using this
end Go.Proofs.YtajaiiidafkijaaDoor
namespace Go.Proofs.YtajaiiidafkijaaDoor
set_option maxRecDepth 100000
open Go Go.RowKit Go.Sort
def ovw : Array Value → Nat → List Value → Array Value
 | cs, _, [] => cs
 | cs, o, v :: r => ovw (cs.setIfInBounds o v) (o + 1) r
theorem world_eq {w v : World} (h : w.heap = v.heap) (h1 : w.tape = v.tape) (h2 : w.drawn = v.drawn) (h3 : w.os = v.os) (h4 : w.output = v.output) : w = v := by
 cases w; cases v; simp_all
theorem setRow_same {w : World} {g : Nat} {cs : Array Value} {t : TypeId} {fr : Nat × Nat} (h : w.heap[g]? = some (.cells cs t fr)) : w.setRow g cs = w := by
 refine world_eq ?_ rfl rfl rfl rfl
 apply Array.ext_getElem?
 intro k
 by_cases hk : k = g
 ·subst hk; rw [setRow_heap w k cs cs t fr h, h]
 ·rw [setRow_other w g k cs hk]
theorem setRow_setRow {w : World} {g : Nat} {cs : Array Value} {t : TypeId} {fr : Nat × Nat} (h : w.heap[g]? = some (.cells cs t fr)) (a b : Array Value) : (w.setRow g a).setRow g b = w.setRow g b := by
 refine world_eq ?_ rfl rfl rfl rfl
 apply Array.ext_getElem?
 intro k
 by_cases hk : k = g
 ·subst hk; rw [setRow_heap _ k a b t fr (setRow_heap w k cs a t fr h), setRow_heap w k cs b t fr h]
 ·rw [setRow_other _ g k b hk, setRow_other w g k a hk, setRow_other w g k b hk]
theorem setCells_eq {g : Nat} {t : TypeId} {fr : Nat × Nat} : ∀ (vs : List Value) (o : Nat) (w : World) (cs : Array Value), w.heap[g]? = some (.cells cs t fr) → w.setCells g o vs = w.setRow g (ovw cs o vs)
 | [], _, w, cs, h => (setRow_same h).symm
 | v :: r, o, w, cs, h => by
  have h1 : w.setCell ⟨g, o, none⟩ v = w.setRow g (cs.setIfInBounds o v) := setCell_eq_setRow w g o cs t fr v h
  rw [World.setCells, h1, setCells_eq r (o + 1) _ (cs.setIfInBounds o v) (setRow_heap w g cs _ t fr h), setRow_setRow h]
  rfl
theorem there_row {w : World} {g : Nat} {cs : Array Value} {t : TypeId} (h : w.heap[g]? = some (.cells cs t (0, 0))) {o n : Nat} (hn : o + n ≤ cs.size) : w.there g o n := by
 intro j hj
 refine ⟨?_, ?_⟩
 ·rw [cell_of_row w g (o + j) cs t (0, 0) h, Array.getElem?_eq_getElem (by omega)]; rfl
 ·simp [World.frozen?, h]
theorem wpList_load_part {P : Program} {ops : Array Oper} {rest : List Oper} {o : Oper} {a : Act} {w : World} {Q : Exit → Act → World → Prop} (hw : Region.wanted o (yielded ops a.tmps) = true) (ty : TypeId) (x : Operand) (ho : o.op = .load ty x)
 (g off : Nat) (hx : a.eval x = .pointer (some ⟨g, off, none⟩)) (t : TypeId) (cs : Array Value) (fr : Nat × Nat) (part : Array Value) (d : TypeDesc) (hg : w.heap[g]? = some (.cells cs t fr)) (hp : cs.extract off (off + part.size) = part)
 (hu : P.underlying ty = some d) (hd : d.isRow = true) (hi : (P.info? ty).map (·.size) = some part.size)
 (h : wpList P ops Q rest (a.put o.dst (.agg part)) w) : wpList P ops Q (o :: rest) a w := by
 refine BigFrame.wpList_want hw fun _ hK => ?_
 have hr := World.rangeAt_of_block hg off part.size
 rw [hp] at hr
 exact wp_load_mid ty x ho g off hx part.toList d hr hu hd (by simpa using hi) (hK _ _ (by simpa using h))
theorem wpQuiet_load_part {P : Program} {C : World → Prop} {ops : Array Oper} {Q : Act → Prop} {a : Act} {o : Oper} {rest : List Oper} (hw : Region.wanted o (yielded ops a.tmps) = true) (ty : TypeId) (x : Operand) (ho : o.op = .load ty x)
 (g off : Nat) (hx : a.eval x = .pointer (some ⟨g, off, none⟩)) (t : TypeId) (cs : Array Value) (fr : Nat × Nat) (part : Array Value) (d : TypeDesc) (hg : ∀ w, C w → w.heap[g]? = some (.cells cs t fr)) (hp : cs.extract off (off + part.size) = part)
 (hu : P.underlying ty = some d) (hd : d.isRow = true) (hi : (P.info? ty).map (·.size) = some part.size)
 (h : wpQuiet P ops C Q rest (a.put o.dst (.agg part))) : wpQuiet P ops C Q (o :: rest) a := by
 refine BigFrame.wpQuiet_want hw fun K hK => ⟨.agg part, fun w hw => ?_, hK _ h⟩
 have hr := World.rangeAt_of_block (hg w hw) off part.size
 rw [hp] at hr
 have hl := run_loadVar_mid (P := P) w g off ty part.toList d hr hu hd (by simpa using hi)
 unfold Oper.quietAt execOp
 simp only [ho, hx, Instr.loadAt, Instr.sureAddr, Sem.run_bind, Sem.run_pure, Result.andThen_ok, hl]
 exact ⟨by simp, rfl⟩
theorem wpList_store_part {P : Program} {ops : Array Oper} {rest : List Oper} {o : Oper} {a : Act} {w : World} {Q : Exit → Act → World → Prop} (hgd : o.guard = none) (ty : TypeId) (x y : Operand) (ho : o.op = .store ty x y)
 (g off : Nat) (cells : Array Value) (hx : a.eval x = .pointer (some ⟨g, off, none⟩)) (hy : a.eval y = .agg cells)
 (t : TypeId) (old new : Array Value) (hg : w.heap[g]? = some (.cells old t (0, 0))) (hle : off + cells.size ≤ old.size) (hnew : ovw old off cells.toList = new) (hi : (P.info? ty).map (·.size) = some cells.size)
 (h1 : cells.all (·.oneCell') = true)
 (h : wpList P ops Q rest (a.put o.dst undef) (w.setRow g new)) : wpList P ops Q (o :: rest) a w := by
 refine wpList_store_mid hgd ty x y ho g off cells hx hy (there_row hg hle) hi h1 ?_
 rw [setCells_eq cells.toList off w old hg, hnew]
 exact h
theorem wpQuiet_build {P : Program} {C : World → Prop} {ops : Array Oper} {Q : Act → Prop} {a : Act} {o : Oper} {rest : List Oper} (hw : Region.wanted o (yielded ops a.tmps) = true) (t : TypeId) (parts : Array (Nat × Operand)) (ho : o.op = .build t parts)
 (vals : List (Nat × Value)) (hv : parts.toList.map (fun (i, x) => (i, a.eval x)) = vals) (cells : Array Value) (hb : P.built t vals = some cells)
 (h : wpQuiet P ops C Q rest (a.put o.dst (.agg cells))) : wpQuiet P ops C Q (o :: rest) a := by
 rw [← Array.toList_map] at hv
 subst hv
 refine BigFrame.wpQuiet_want hw fun K hK => ⟨.agg cells, fun w hw => ?_, hK _ h⟩
 unfold Oper.quietAt execOp
 simp only [ho, Sem.run_bind, run_build w t _ cells hb, Result.andThen_ok]
 exact ⟨rfl, rfl⟩
theorem wpList_build_as {P : Program} {ops : Array Oper} {rest : List Oper} {o : Oper} {a : Act} {w : World} {Q : Exit → Act → World → Prop} (hg : o.guard = none) (t : TypeId) (parts : Array (Nat × Operand)) (ho : o.op = .build t parts)
 (vals : List (Nat × Value)) (hv : parts.toList.map (fun (i, x) => (i, a.eval x)) = vals) (cells : Array Value) (hb : P.built t vals = some cells)
 (h : wpList P ops Q rest (a.put o.dst (.agg cells)) w) : wpList P ops Q (o :: rest) a w := by
 rw [← Array.toList_map] at hv
 subst hv
 refine wpList_build hg t parts ho (by rw [hb]; rfl) ?_
 rw [hb]
 exact h
theorem five {r : Array Value} (h : r.size = 5) : ∃ a b c d e, r = #[a, b, c, d, e] := by
 obtain ⟨l⟩ := r
 match l, h with
 | [a, b, c, d, e], _ => exact ⟨a, b, c, d, e, rfl⟩
def r4 (a b c d : Array Value) : Array Value := (a.toList ++ (b.toList ++ (c.toList ++ d.toList))).toArray
theorem r4_size (a b c d : Array Value) : (r4 a b c d).size = a.size + (b.size + (c.size + d.size)) := by simp [r4]
theorem r4_one {a b c d : Array Value} (ha : a.all (·.oneCell') = true) (hb : b.all (·.oneCell') = true) (hc : c.all (·.oneCell') = true) (hd : d.all (·.oneCell') = true) : (r4 a b c d).all (·.oneCell') = true := by
 simp only [Array.all_eq_true_iff_forall_mem] at *
 intro v hv
 simp only [r4, List.mem_toArray, List.mem_append, Array.mem_toList_iff] at hv
 rcases hv with h | h | h | h
 ·exact ha v h
 ·exact hb v h
 ·exact hc v h
 ·exact hd v h
theorem r4_get0 {a b c d : Array Value} {o : Nat} (h : o = 0) : (r4 a b c d).extract o (o + a.size) = a := by
 subst h
 apply Array.ext'
 simp [r4]
theorem drop_two (a b c : List Value) : (a ++ (b ++ c)).drop (a.length + b.length) = c := by
 rw [← List.append_assoc, ← List.length_append, List.drop_left]
theorem r4_get1 {a b c d : Array Value} {o : Nat} (h : o = a.size) : (r4 a b c d).extract o (o + b.size) = b := by
 subst h
 apply Array.ext'
 simp [r4]
theorem r4_get2 {a b c d : Array Value} {o : Nat} (h : o = a.size + b.size) : (r4 a b c d).extract o (o + c.size) = c := by
 subst h
 apply Array.ext'
 have := drop_two a.toList b.toList (c.toList ++ d.toList)
 simp [r4] at this ⊢
 rw [this]
 simp
theorem r4_get3 {a b c d : Array Value} {o : Nat} (h : o = a.size + b.size + c.size) : (r4 a b c d).extract o (o + d.size) = d := by
 subst h
 apply Array.ext'
 have := drop_two (a.toList ++ b.toList) c.toList d.toList
 simp [r4] at this ⊢
 rw [this]
 exact List.take_of_length_le (by simp)
end Go.Proofs.YtajaiiidafkijaaDoor

