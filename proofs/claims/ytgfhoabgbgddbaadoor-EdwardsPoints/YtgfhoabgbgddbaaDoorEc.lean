import Derived.Test.YtgfhoabgbgddbaaDoorEb
import Derived.Test.YtgfhoabgbgddbaaDoorCm
namespace Go.Proofs.YtgfhoabgbgddbaaDoor
set_option maxRecDepth 100000

/-- A fraction that stands for a point's number. -/
def Rep (s : Int) {c : Int} (P : EP c) (a b : Int) : Prop := ¬ (Zp a ∧ Zp b) ∧ Zp (a * (1 - P.y) - s * b * (1 + P.y))
theorem Rep.scale {s c : Int} {P : EP c} {a b : Int} (hs : s * s = 1) (h : Rep s P a b) : ∃ l, ¬ Zp l ∧ Zp (a - s * l * (1 + P.y)) ∧ Zp (b - l * (1 - P.y)) := by
  obtain ⟨hn, hr⟩ := h
  have hi := iv_mul zp_two
  generalize iv 2 = i at *
  generalize P.y = y at *
  have ha : Zp (a - s * ((s * a + b) * i) * (1 + y)) := zp_lin2 i (-a) hr hi (by grind)
  have hb : Zp (b - (s * a + b) * i * (1 - y)) := zp_lin2 (-(s * i)) (-b) hr hi (by grind)
  refine ⟨(s * a + b) * i, fun hl => hn ⟨?_, ?_⟩, ha, hb⟩
  · exact zp_lin2 1 (s * (1 + y)) ha hl (by grind)
  · exact zp_lin2 1 (1 - y) hb hl (by grind)
theorem Rep.congr {s c : Int} {P : EP c} {a b a' b' : Int} (h : Rep s P a b) (ha : Zp (a' - a)) (hb : Zp (b' - b)) : Rep s P a' b' := by
  obtain ⟨hn, hr⟩ := h
  refine ⟨fun ⟨q1, q2⟩ => hn ⟨zp_lin2 1 (-1) q1 ha (by grind), zp_lin2 1 (-1) q2 hb (by grind)⟩, ?_⟩
  generalize P.y = y at *
  exact zp_lin3 1 (1 - y) (-(s * (1 + y))) hr ha hb (by grind)
/-- Which curve: the one of the document, or its twist. -/
def Mont (s c : Int) : Prop := (s = 1 ∧ Zp (121666 * c - 121665)) ∨ (s = -1 ∧ Zp (121665 * c - 121666))
theorem Mont.sq {s c : Int} (h : Mont s c) : s * s = 1 := by rcases h with ⟨rfl, _⟩ | ⟨rfl, _⟩ <;> decide
theorem n16 : ¬ Zp 16 := by unfold Zp; decide
theorem n121666 : ¬ Zp 121666 := by unfold Zp; decide
theorem n121665 : ¬ Zp 121665 := by unfold Zp; decide
/-- Doubling. -/
theorem Rep.double {s c : Int} (hc : NonSq c) (hm : Mont s c) {P : EP c} {a b : Int} (h : Rep s P a b) :
    Rep s (EP.add hc P P) ((a + b) * (a + b) * ((a - b) * (a - b))) (((a + b) * (a + b) - (a - b) * (a - b)) * ((a + b) * (a + b) + 121665 * ((a + b) * (a + b) - (a - b) * (a - b)))) := by
  obtain ⟨l, hl, ha, hb⟩ := h.scale hm.sq
  have sp := EP.add_y hc P P
  have dn := ed_minus hc P.on P.on
  have on := P.on
  unfold Rep
  generalize (EP.add hc P P).y = z at *
  generalize P.y = y at *
  generalize P.x = x at *
  have nl : ¬ Zp (16 * (l * l * (l * l))) := zp_ne_mul n16 (zp_ne_mul (zp_ne_mul hl hl) (zp_ne_mul hl hl))
  rcases hm with ⟨rfl, zc⟩ | ⟨rfl, zc⟩
  · have he : Zp (a + b - 2 * l) := zp_lin2 1 1 ha hb (by grind)
    have hf : Zp (a - b - 2 * l * y) := zp_lin2 1 (-1) ha hb (by grind)
    generalize a + b = e at *
    generalize a - b = f at *
    have hy : Zp (e * e - 4 * l * l) := zp_lin1 (e + 2 * l) he (by grind)
    have hz : Zp (f * f - 4 * l * l * y * y) := zp_lin1 (f + 2 * l * y) hf (by grind)
    generalize e * e = Y at *
    generalize f * f = Z at *
    have hA : Zp (Y * Z - 16 * (l * l * (l * l)) * (y * y)) := zp_lin2 Z (4 * l * l) hy hz (by grind)
    have hr : Zp (Y - Z - 4 * l * l * (1 - y * y)) := zp_lin2 1 (-1) hy hz (by grind)
    generalize Y - Z = r at *
    have hY : Zp (Y + 121665 * r - 4 * l * l * (1 + 121665 * (1 - y * y))) := zp_lin2 1 121665 hy hr (by grind)
    generalize Y + 121665 * r = V at *
    have hB : Zp (r * V - 16 * (l * l * (l * l)) * ((1 - y * y) * (1 + 121665 * (1 - y * y)))) := zp_lin2 V (4 * l * l * (1 - y * y)) hr hY (by grind)
    generalize Y * Z = A at *
    generalize r * V = B at *
    have G : Zp (y * y * ((1 - c * x * x * y * y) - (y * y - x * x)) - (1 - y * y) * (1 + 121665 * (1 - y * y)) * ((1 - c * x * x * y * y) + (y * y - x * x))) :=
      zp_lin2 (2 * 121666 * (1 - y * y) + y * y - (1 - y * y) * (1 + 121665 * (1 - y * y))) (2 * (1 - y * y) * (x * x * (y * y))) on zc (by grind)
    constructor
    · rintro ⟨q1, q2⟩
      have k1 : Zp (16 * (l * l * (l * l)) * (y * y)) := zp_lin2 1 (-1) q1 hA (by grind)
      have ky : Zp y := (zp_or (zp_cancel k1 nl)).elim id id
      have k2 : Zp (16 * (l * l * (l * l)) * 121666) := zp_lin3 1 (-1) (16 * (l * l * (l * l)) * (y * (1 + 121665 * (1 - y * y)) + y * 121665)) q2 hB ky (by grind)
      exact zp_ne_mul nl n121666 k2
    · refine zp_cancel (a := 1 - c * x * x * y * y) ?_ dn
      have g2 : Zp (16 * (l * l * (l * l)) * (y * y * ((1 - c * x * x * y * y) - (y * y - x * x)) - (1 - y * y) * (1 + 121665 * (1 - y * y)) * ((1 - c * x * x * y * y) + (y * y - x * x)))) := zp_mul _ G
      generalize 16 * (l * l * (l * l)) = L at *
      generalize c * x * x * y * y = t at *
      generalize (1 - y * y) * (1 + 121665 * (1 - y * y)) = bb at *
      generalize y * y = yy at *
      generalize x * x = xx at *
      exact zp_lin4 ((1 - t) * (1 - z)) (-((1 - t) * (1 + z))) 1 (-(L * yy) - L * bb) hA hB g2 sp (by grind)
  · have he : Zp (a + b + 2 * l * y) := zp_lin2 1 1 ha hb (by grind)
    have hf : Zp (a - b + 2 * l) := zp_lin2 1 (-1) ha hb (by grind)
    generalize a + b = e at *
    generalize a - b = f at *
    have hy : Zp (e * e - 4 * l * l * y * y) := zp_lin1 (e - 2 * l * y) he (by grind)
    have hz : Zp (f * f - 4 * l * l) := zp_lin1 (f - 2 * l) hf (by grind)
    generalize e * e = Y at *
    generalize f * f = Z at *
    have hA : Zp (Y * Z - 16 * (l * l * (l * l)) * (y * y)) := zp_lin2 Z (4 * l * l * y * y) hy hz (by grind)
    have hr : Zp (Y - Z + 4 * l * l * (1 - y * y)) := zp_lin2 1 (-1) hy hz (by grind)
    generalize Y - Z = r at *
    have hY : Zp (Y + 121665 * r - 4 * l * l * (y * y - 121665 * (1 - y * y))) := zp_lin2 1 121665 hy hr (by grind)
    generalize Y + 121665 * r = V at *
    have hB : Zp (r * V + 16 * (l * l * (l * l)) * ((1 - y * y) * (y * y - 121665 * (1 - y * y)))) := zp_lin2 V (-(4 * l * l * (1 - y * y))) hr hY (by grind)
    generalize Y * Z = A at *
    generalize r * V = B at *
    have G : Zp (y * y * ((1 - c * x * x * y * y) - (y * y - x * x)) - (1 - y * y) * (y * y - 121665 * (1 - y * y)) * ((1 - c * x * x * y * y) + (y * y - x * x))) :=
      zp_lin2 (-(2 * 121665 * (1 - y * y)) + y * y - (1 - y * y) * (y * y - 121665 * (1 - y * y))) (-(2 * (1 - y * y) * (x * x * (y * y)))) on zc (by grind)
    constructor
    · rintro ⟨q1, q2⟩
      have k1 : Zp (16 * (l * l * (l * l)) * (y * y)) := zp_lin2 1 (-1) q1 hA (by grind)
      have ky : Zp y := (zp_or (zp_cancel k1 nl)).elim id id
      have k2 : Zp (16 * (l * l * (l * l)) * 121665) := zp_lin3 1 (-1) (16 * (l * l * (l * l)) * (-(y * (y * y - 121665 * (1 - y * y))) + y + 121665 * y)) q2 hB ky (by grind)
      exact zp_ne_mul nl n121665 k2
    · refine zp_cancel (a := 1 - c * x * x * y * y) ?_ dn
      have g2 : Zp (16 * (l * l * (l * l)) * (y * y * ((1 - c * x * x * y * y) - (y * y - x * x)) - (1 - y * y) * (y * y - 121665 * (1 - y * y)) * ((1 - c * x * x * y * y) + (y * y - x * x)))) := zp_mul _ G
      generalize 16 * (l * l * (l * l)) = L at *
      generalize c * x * x * y * y = t at *
      generalize (1 - y * y) * (y * y - 121665 * (1 - y * y)) = bb at *
      generalize y * y = yy at *
      generalize x * x = xx at *
      exact zp_lin4 ((1 - t) * (1 - z)) ((1 - t) * (1 + z)) 1 (-(L * yy) - L * bb) hA hB g2 sp (by grind)
/-- The sum of two points whose difference is known. -/
theorem Rep.diff {s c : Int} (hc : NonSq c) (hs : s * s = 1) {P Q : EP c} {a b u v X y0 : Int} (hP : Rep s P a b) (hQ : Rep s Q u v)
    (hD : Zp (y0 * (1 + (c * P.x * Q.x * P.y * Q.y)) - (P.y * Q.y + P.x * Q.x))) (hX : Zp (X * (1 - y0) - s * (1 + y0))) (nX : ¬ Zp X) (n0 : ¬ Zp (1 - y0)) :
    Rep s (EP.add hc P Q) (((u - v) * (a + b) + (u + v) * (a - b)) * ((u - v) * (a + b) + (u + v) * (a - b))) (X * (((u - v) * (a + b) - (u + v) * (a - b)) * ((u - v) * (a + b) - (u + v) * (a - b)))) := by
  obtain ⟨l, hl, ha, hb⟩ := hP.scale hs
  obtain ⟨m, hm, hu, hv⟩ := hQ.scale hs
  have sp := EP.add_y hc P Q
  have dp := ed_plus hc P.on Q.on
  have dm := ed_minus hc P.on Q.on
  have o1 := P.on
  have o2 := Q.on
  unfold Rep
  generalize (EP.add hc P Q).y = z at *
  generalize P.x = x1 at *
  generalize P.y = y1 at *
  generalize Q.x = x2 at *
  generalize Q.y = y2 at *
  have G : Zp ((1 - (c * x1 * x2 * y1 * y2) + (y1 * y2 - x1 * x2)) * (1 + (c * x1 * x2 * y1 * y2) + (y1 * y2 + x1 * x2)) * ((y1 - y2) * (y1 - y2)) - (1 - (c * x1 * x2 * y1 * y2) - (y1 * y2 - x1 * x2)) * (1 + (c * x1 * x2 * y1 * y2) - (y1 * y2 + x1 * x2)) * ((y1 + y2) * (y1 + y2))) :=
    zp_lin2 (4 * y1 * y2 * x2 * x2 - 4 * c * y1 * x2 * x2 * y2 * y2 * y2) (-(4 * y2 * y1 * y1 * y1) + 4 * y1 * y2) o1 o2 (by grind)
  have hM : Zp ((u - v) * (a + b) + (u + v) * (a - b) - 4 * l * m * (y1 + y2)) := zp_lin4 (2 * u) (-(2 * v)) (2 * s * l * (1 + y1)) (-(2 * l * (1 - y1))) ha hb hu hv (by grind)
  have hN : Zp ((u - v) * (a + b) - (u + v) * (a - b) - 4 * s * l * m * (y2 - y1)) := zp_lin4 (-(2 * v)) (2 * u) (2 * l * (1 - y1)) (-(2 * s * l * (1 + y1))) ha hb hu hv (by grind)
  generalize (u - v) * (a + b) + (u + v) * (a - b) = M at *
  generalize (u - v) * (a + b) - (u + v) * (a - b) = N at *
  have hC : Zp (M * M - 16 * (l * l * (m * m)) * ((y1 + y2) * (y1 + y2))) := zp_lin1 (M + 4 * l * m * (y1 + y2)) hM (by grind)
  have hE : Zp (N * N - 16 * (l * l * (m * m)) * ((y1 - y2) * (y1 - y2))) := zp_lin1 (N + 4 * s * l * m * (y2 - y1)) hN (by grind)
  have nl : ¬ Zp (16 * (l * l * (m * m))) := zp_ne_mul n16 (zp_ne_mul (zp_ne_mul hl hl) (zp_ne_mul hm hm))
  generalize 16 * (l * l * (m * m)) = L at *
  generalize M * M = C at *
  generalize N * N = D at *
  constructor
  · rintro ⟨q1, q2⟩
    have k1 : Zp (L * ((y1 + y2) * (y1 + y2))) := zp_lin2 1 (-1) q1 hC (by grind)
    have k2 : Zp (L * ((y1 - y2) * (y1 - y2))) := zp_lin2 1 (-1) (zp_cancel q2 nX) hE (by grind)
    have s1 : Zp (y1 + y2) := (zp_or (zp_cancel k1 nl)).elim id id
    have s2 : Zp (y1 - y2) := (zp_or (zp_cancel k2 nl)).elim id id
    have z1 : Zp y1 := zp_cancel (a := 2) (zp_lin2 1 1 s1 s2 (by grind)) zp_two
    have z2 : Zp y2 := zp_cancel (a := 2) (zp_lin2 1 (-1) s1 s2 (by grind)) zp_two
    have w1 : Zp (x1 * x1 - 1) := zp_lin2 1 (-y1 + c * x1 * x1 * y1) o1 z1 (by grind)
    have w2 : Zp (x2 * x2 - 1) := zp_lin2 1 (-y2 + c * x2 * x2 * y2) o2 z2 (by grind)
    have w3 : Zp (y0 - x1 * x2) := zp_lin2 1 (-(y0 * c * x1 * x2 * y2) + y2) hD z1 (by grind)
    have w4 : Zp ((1 - y0) * (1 + y0)) := zp_lin3 (-(y0 + x1 * x2)) (-(x2 * x2)) (-1) w3 w1 w2 (by grind)
    rcases zp_or w4 with q | q
    · exact n0 q
    · exact nX (zp_cancel (a := 1 - y0) (zp_lin2 1 s hX q (by grind)) n0)
  · refine zp_cancel (a := (1 - y0) * ((1 + (c * x1 * x2 * y1 * y2)) * (1 - (c * x1 * x2 * y1 * y2)))) ?_ (zp_ne_mul n0 (zp_ne_mul dp dm))
    generalize c * x1 * x2 * y1 * y2 = t at *
    generalize y1 * y2 - x1 * x2 = Ym at *
    generalize y1 * y2 + x1 * x2 = Yp at *
    generalize (y1 + y2) * (y1 + y2) = S at *
    generalize (y1 - y2) * (y1 - y2) = R at *
    have h1 : Zp ((1 - y0) * ((1 + t) * (1 - t)) * (C * (1 - z) - s * (X * D) * (1 + z)) - (1 - y0) * ((1 + t) * (1 - t)) * (L * S * (1 - z) - s * (X * (L * R)) * (1 + z))) := zp_lin2 ((1 - y0) * ((1 + t) * (1 - t)) * (1 - z)) (-((1 - y0) * ((1 + t) * (1 - t)) * (s * X * (1 + z)))) hC hE (by grind)
    have h2 : Zp ((1 - y0) * ((1 + t) * (1 - t)) * (L * S * (1 - z) - s * (X * (L * R)) * (1 + z)) - ((1 + t) * (1 - t)) * (L * S * (1 - y0) * (1 - z) - L * R * (1 + y0) * (1 + z))) := zp_lin1 (-((1 + t) * (1 - t) * s * L * R * (1 + z))) hX (by grind)
    have h3 : Zp ((1 + t) * (1 - t) * ((1 - y0) * (1 - z)) - (1 + t - Yp) * (1 - t - Ym)) := zp_lin2 (-((1 - t) * (1 - z))) (-(1 + t - Yp)) hD sp (by grind)
    have h4 : Zp ((1 + t) * (1 - t) * ((1 + y0) * (1 + z)) - (1 + t + Yp) * (1 - t + Ym)) := zp_lin2 ((1 - t) * (1 + z)) (1 + t + Yp) hD sp (by grind)
    have h5 : Zp (((1 + t) * (1 - t)) * (L * S * (1 - y0) * (1 - z) - L * R * (1 + y0) * (1 + z))) := zp_lin3 (L * S) (-(L * R)) (-L) h3 h4 G (by grind)
    exact zp_lin3 1 1 1 h1 h2 h5 (by grind)
end Go.Proofs.YtgfhoabgbgddbaaDoor
