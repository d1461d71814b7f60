import Derived.Test.YtlbcdjflcghkeaaDoorTuu
namespace Go.Proofs.YtlbcdjflcghkeaaDoor
set_option maxRecDepth 100000
open Go Go.RowKit
/-! What is known of the names, and the contacts: the law of TrustStops on lists. -/
def gk (l : List Kn) (i : Nat) : Kn := l.getD i zkn
/-- The place of a name, or the end. -/
def pk (l : List Kn) (m : ByteArray) : Nat := match l with
  | [] => 0
  | a :: r => if a.n = m then 0 else pk r m + 1
theorem pk_le (l : List Kn) (m : ByteArray) : pk l m ≤ l.length := by
  induction l with
  | nil => exact Nat.le_refl _
  | cons a r ih => unfold pk; split <;> simp; omega
theorem pk_at {l : List Kn} {m : ByteArray} (h : pk l m < l.length) : (gk l (pk l m)).n = m := by
  induction l with
  | nil => simp [pk] at h
  | cons a r ih =>
    unfold pk at h ⊢
    split
    · next e => exact e
    · next e =>
      rw [if_neg e] at h
      exact ih (by simpa using h)
theorem pk_lt {l : List Kn} {m : ByteArray} {t : Nat} (h : t < pk l m) : (gk l t).n ≠ m := by
  induction l generalizing t with
  | nil => simp [pk] at h
  | cons a r ih =>
    unfold pk at h
    split at h
    · omega
    · next e =>
      cases t with
      | zero => exact e
      | succ t => exact ih (by omega)
theorem pk_of {l : List Kn} {m : ByteArray} {k : Nat} (hk : k ≤ l.length) (h1 : ∀ t, t < k → (gk l t).n ≠ m) (h2 : k < l.length → (gk l k).n = m) : pk l m = k := by
  rcases Nat.lt_trichotomy (pk l m) k with q | q | q
  · exact absurd (pk_at (by omega)) (h1 _ q)
  · exact q
  · have := pk_le l m
    exact absurd (h2 (by omega)) (pk_lt q)
/-- A contact as it is known. -/
def Kc (a : Kn) (c : Ct) : Prop := a.k = c.k ∧ (a.s = true ↔ c.s = 4) ∧ (a.s = false → (a.o = true ↔ c.s = 3))
structure Rl (l : List Kn) (cs : List Ct) : Prop where
  there : ∀ t, t < l.length → ∃ c, fd cs (gk l t).n = some c ∧ Kc (gk l t) c
  apart : ∀ i j, i < j → j < l.length → (gk l i).n ≠ (gk l j).n
  all : ∀ m c, fd cs m = some c → ∃ t, t < l.length ∧ (gk l t).n = m
  nms : ∀ c ∈ cs, nam c.n = true
theorem Rl.nil : Rl [] [] := ⟨fun t h => by simp at h, fun i j _ h => by simp at h, fun m c h => by simp [fd] at h, fun c h => by cases h⟩
theorem Rl.no {l : List Kn} {cs : List Ct} (h : Rl l cs) {m : ByteArray} (hp : ¬ pk l m < l.length) : fd cs m = none := by
  cases q : fd cs m with
  | none => rfl
  | some c =>
    obtain ⟨t, ht, e⟩ := h.all m c q
    have := pk_le l m
    exact absurd e (pk_lt (by omega))
theorem Rl.yes {l : List Kn} {cs : List Ct} (h : Rl l cs) {m : ByteArray} (hp : pk l m < l.length) : ∃ c, fd cs m = some c ∧ Kc (gk l (pk l m)) c := by
  have := h.there _ hp
  rwa [pk_at hp] at this
theorem gk_set {l : List Kn} {i : Nat} (a : Kn) (hi : i < l.length) (j : Nat) : gk (l.set i a) j = if j = i then a else gk l j := by
  unfold gk
  rw [List.getD_eq_getElem?_getD, List.getD_eq_getElem?_getD, List.getElem?_set]
  by_cases h : i = j
  · subst h; simp [hi]
  · simp [h, Ne.symm h]
/-- A name's contact changed, and what is known of it. -/
theorem Rl.put {l : List Kn} {cs : List Ct} (h : Rl l cs) (hs : Srt cs) {m : ByteArray} (hp : pk l m < l.length) {a : Kn} {c : Ct} (ha : a.n = m) (hc : c.n = m) (hk : Kc a c) : Rl (l.set (pk l m) a) (putC cs c) := by
  obtain ⟨c0, q0, _⟩ := h.yes hp
  have ht : th cs c.n = true := by rw [hc]; unfold th; rw [q0]; rfl
  have hat := pk_at hp
  have hname : ∀ j, (gk (l.set (pk l m) a) j).n = (gk l j).n := fun j => by
    rw [gk_set a hp]
    split
    · next e => rw [e, hat, ha]
    · rfl
  refine ⟨fun t ht2 => ?_, fun i j hij hj => ?_, fun q d hd => ?_, fun d hd => ?_⟩
  · rw [List.length_set] at ht2
    rw [fd_put hs ht]
    by_cases e : t = pk l m
    · subst e
      have e2 : gk (l.set (pk l m) a) (pk l m) = a := by rw [gk_set a hp, if_pos rfl]
      rw [e2, ha, hc, if_pos rfl]
      exact ⟨c, rfl, hk⟩
    · have e2 : gk (l.set (pk l m) a) t = gk l t := by rw [gk_set a hp, if_neg e]
      rw [e2]
      have hne : (gk l t).n ≠ c.n := by
        rw [hc, ← hat]
        rcases Nat.lt_or_gt_of_ne e with q | q
        · exact h.apart _ _ q hp
        · exact fun k => h.apart _ _ q ht2 k.symm
      rw [if_neg hne]
      exact h.there t ht2
  · rw [List.length_set] at hj
    rw [hname, hname]
    exact h.apart i j hij hj
  · rw [fd_put hs ht] at hd
    split at hd
    · next e => exact ⟨pk l m, by rw [List.length_set]; exact hp, by rw [hname, hat, e, hc]⟩
    · obtain ⟨t, h1, h2⟩ := h.all q d hd
      exact ⟨t, by rw [List.length_set]; exact h1, by rw [hname]; exact h2⟩
  · rcases mem_put hd with rfl | q
    · have := h.nms c0 (fd_some q0).1
      rw [(fd_some q0).2] at this
      rw [hc]; exact this
    · exact h.nms d q
theorem gk_app (a b : List Kn) (i : Nat) : gk (a ++ b) i = if i < a.length then gk a i else gk b (i - a.length) := by
  unfold gk
  rw [List.getD_eq_getElem?_getD, List.getElem?_append]
  split <;> rw [List.getD_eq_getElem?_getD]
/-- A first key. -/
theorem Rl.ins {l : List Kn} {cs : List Ct} (h : Rl l cs) (hs : Srt cs) {m : ByteArray} (hn : nam m = true) (hp : ¬ pk l m < l.length) (k : List Int) : Rl (l ++ [⟨m, k, false, false⟩]) (insC cs ⟨m, k, zr 32, 1⟩) := by
  have hno := h.no hp
  have ht : th cs m = false := by unfold th; rw [hno]; rfl
  have hpl : pk l m = l.length := by have := pk_le l m; omega
  have hfd := fun q => fd_ins hs (c := ⟨m, k, zr 32, 1⟩) ht q
  dsimp only at hfd
  have hne : ∀ t, t < l.length → (gk l t).n ≠ m := fun t ht => pk_lt (by omega)
  have hlen : (l ++ [(⟨m, k, false, false⟩ : Kn)]).length = l.length + 1 := by simp
  have hold : ∀ t, t < l.length → gk (l ++ [⟨m, k, false, false⟩]) t = gk l t := fun t ht => by rw [gk_app, if_pos ht]
  have hlast : gk (l ++ [⟨m, k, false, false⟩]) l.length = ⟨m, k, false, false⟩ := by rw [gk_app, if_neg (by omega), Nat.sub_self]; rfl
  refine ⟨fun t ht2 => ?_, fun i j hij hj => ?_, fun q d hd => ?_, fun d hd => ?_⟩
  · rw [hlen] at ht2
    by_cases e : t < l.length
    · rw [hold t e, hfd, if_neg (hne t e)]
      exact h.there t e
    · obtain rfl : t = l.length := by omega
      rw [hlast, hfd, if_pos rfl]
      exact ⟨_, rfl, rfl, ⟨(fun q => by cases q), (fun q => by simp at q)⟩, fun _ => ⟨(fun q => by cases q), (fun q => by simp at q)⟩⟩
  · rw [hlen] at hj
    rw [hold i (by omega)]
    by_cases e : j < l.length
    · rw [hold j e]; exact h.apart i j hij e
    · obtain rfl : j = l.length := by omega
      rw [hlast]; exact hne i (by omega)
  · rw [hfd] at hd
    split at hd
    · next e => exact ⟨l.length, by rw [hlen]; omega, by rw [hlast]; exact e.symm⟩
    · obtain ⟨t, h1, h2⟩ := h.all q d hd
      exact ⟨t, by rw [hlen]; omega, by rw [hold t h1]; exact h2⟩
  · rcases mem_ins.1 hd with rfl | q
    · exact hn
    · exact h.nms d q
theorem gk_cut (l : List Kn) {i : Nat} (hi : i < l.length) (j : Nat) : gk (l.take i ++ l.drop (i + 1)) j = if j < i then gk l j else gk l (j + 1) := by
  rw [gk_app, List.length_take, Nat.min_eq_left (by omega)]
  split
  · next h =>
    unfold gk
    rw [List.getD_eq_getElem?_getD, List.getD_eq_getElem?_getD, List.getElem?_take_of_lt h]
  · next h =>
    unfold gk
    rw [List.getD_eq_getElem?_getD, List.getD_eq_getElem?_getD, List.getElem?_drop]
    congr 2
    omega
/-- A contact forgotten. -/
theorem Rl.del {l : List Kn} {cs : List Ct} (h : Rl l cs) (hs : Srt cs) {m : ByteArray} (hp : pk l m < l.length) : Rl (l.take (pk l m) ++ l.drop (pk l m + 1)) (delC cs m) := by
  obtain ⟨c0, q0, _⟩ := h.yes hp
  have ht : th cs m = true := by unfold th; rw [q0]; rfl
  have hat := pk_at hp
  have hlen : (l.take (pk l m) ++ l.drop (pk l m + 1)).length + 1 = l.length := by rw [List.length_append, List.length_take, List.length_drop]; omega
  have hne : ∀ t, t < l.length → t ≠ pk l m → (gk l t).n ≠ m := fun t h1 h2 => by
    rw [← hat]
    rcases Nat.lt_or_gt_of_ne h2 with q | q
    · exact h.apart _ _ q hp
    · exact fun k => h.apart _ _ q h1 k.symm
  refine ⟨fun t ht2 => ?_, fun i j hij hj => ?_, fun q d hd => ?_, fun d hd => ?_⟩
  · rw [gk_cut l hp]
    split
    · next e =>
      rw [fd_del hs ht, if_neg (hne t (by omega) (by omega))]
      exact h.there t (by omega)
    · next e =>
      rw [fd_del hs ht, if_neg (hne (t + 1) (by omega) (by omega))]
      exact h.there (t + 1) (by omega)
  · rw [gk_cut l hp, gk_cut l hp]
    split
    · split
      · exact h.apart i j hij (by omega)
      · exact h.apart i (j + 1) (by omega) (by omega)
    · rw [if_neg (by omega)]
      exact h.apart (i + 1) (j + 1) (by omega) (by omega)
  · rw [fd_del hs ht] at hd
    split at hd
    · cases hd
    · next e =>
      obtain ⟨t, h1, h2⟩ := h.all q d hd
      have hte : t ≠ pk l m := fun k => e (by rw [← h2, k, hat])
      by_cases hlt : t < pk l m
      · exact ⟨t, by omega, by rw [gk_cut l hp, if_pos hlt]; exact h2⟩
      · exact ⟨t - 1, by omega, by rw [gk_cut l hp, if_neg (by omega), show t - 1 + 1 = t by omega]; exact h2⟩
  · exact h.nms d (mem_del hd)
/-- What is let through. -/
def thr (a : Kn) (k : List Int) : Bool := !a.o && !a.s && decide (a.k = k)
theorem fnC_of {cs : List Ct} {m : ByteArray} {c : Ct} (h : fd cs m = some c) : fnC cs m = c := by unfold fnC; rw [h]; rfl
theorem fnC_none {cs : List Ct} {m : ByteArray} (h : fd cs m = none) : fnC cs m = zct := by unfold fnC; rw [h]; rfl
theorem thr_may {a : Kn} {c : Ct} (h : Kc a c) (hs : 1 ≤ c.s ∧ c.s ≤ 4) (k : List Int) : (clm c && decide (k = c.k)) = thr a k := by
  obtain ⟨h1, h2, h3⟩ := h
  unfold thr clm
  rw [h1]
  have hk : decide (k = c.k) = decide (c.k = k) := by rw [decide_eq_decide]; exact eq_comm
  rw [hk]
  cases q : a.s with
  | true =>
    have := h2.1 q
    have e1 : (c.s == 1) = false := by rw [beq_eq_false_iff_ne]; omega
    have e2 : (c.s == 2) = false := by rw [beq_eq_false_iff_ne]; omega
    rw [e1, e2]; simp
  | false =>
    have n4 : ¬ c.s = 4 := fun e => by have := h2.2 e; rw [q] at this; cases this
    cases qo : a.o with
    | true =>
      have := (h3 q).1 qo
      have e1 : (c.s == 1) = false := by rw [beq_eq_false_iff_ne]; omega
      have e2 : (c.s == 2) = false := by rw [beq_eq_false_iff_ne]; omega
      rw [e1, e2]; simp
    | false =>
      have n3 : ¬ c.s = 3 := fun e => by have := (h3 q).2 e; rw [qo] at this; cases this
      have e1 : (c.s == 1 || c.s == 2) = true := by
        rcases (show c.s = 1 ∨ c.s = 2 by omega) with e | e <;> rw [e] <;> rfl
      rw [e1]; simp
/-! The steps. -/
theorem nxt_of {es : List Ev} {cs ds : List Ct} {e : Ev} (hn : nam e.n = true) (h : hap cs e = some ds) : nxt es cs (some e) = (es ++ [e], ds) := by
  have : hpn cs e = some ds := by unfold hpn; rw [if_pos hn, h]
  rw [nxt_some, this]
  rfl
theorem rm_room {es : List Ev} (h : es.length < 1024) (e : Ev) (a : Int) : rm es e a = (a, some e) := by unfold rm; rw [if_neg (by omega)]
theorem hap_1 (cs : List Ct) (m : ByteArray) (k : List Int) : hap cs ⟨1, m, k⟩ = snC cs ⟨1, m, k⟩ := rfl
theorem hap_2 (cs : List Ct) (m : ByteArray) (k : List Int) : hap cs ⟨2, m, k⟩ = puO cs (up2 (fnC cs m) ⟨2, m, k⟩) := rfl
theorem hap_3 (cs : List Ct) (m : ByteArray) (k : List Int) : hap cs ⟨3, m, k⟩ = puO cs (up3 (fnC cs m) ⟨3, m, k⟩) := rfl
theorem hap_4 (cs : List Ct) (m : ByteArray) (k : List Int) : hap cs ⟨4, m, k⟩ = puO cs (up4 (fnC cs m) ⟨4, m, k⟩) := rfl
theorem hap_5 (cs : List Ct) (m : ByteArray) (k : List Int) : hap cs ⟨5, m, k⟩ = puO cs (up5 (fnC cs m) ⟨5, m, k⟩) := rfl
theorem hap_6 (cs : List Ct) (m : ByteArray) (k : List Int) : hap cs ⟨6, m, k⟩ = puO cs (up6 (fnC cs m) ⟨6, m, k⟩) := rfl
theorem hap_7 (cs : List Ct) (m : ByteArray) (k : List Int) : hap cs ⟨7, m, k⟩ = fgC cs ⟨7, m, k⟩ := rfl
theorem puO_some {cs : List Ct} {r : Option Ct} {c : Ct} (h : r = some c) : puO cs r = some (putC cs c) := by rw [h]; rfl
theorem Rl.isn {l : List Kn} {cs : List Ct} (h : Rl l cs) {m : ByteArray} {c : Ct} (q : fd cs m = some c) : nam m = true := by
  have := h.nms c (fd_some q).1
  rwa [(fd_some q).2] at this
theorem gk_self {l : List Kn} {i : Nat} (hi : i < l.length) : l.set i (gk l i) = l := by
  have e : gk l i = l[i] := by unfold gk; rw [List.getD_eq_getElem?_getD, List.getElem?_eq_getElem hi]; rfl
  rw [e]
  exact List.set_getElem_self hi
theorem put_self {cs : List Ct} (hs : Srt cs) {m : ByteArray} {c : Ct} (hc : fd cs m = some c) : putC cs c = cs := by
  have ht : th cs m = true := by unfold th; rw [hc]; rfl
  obtain ⟨h1, _⟩ := (th_iff hs m).1 ht
  have e := fd_at hs ht
  rw [hc] at e
  injection e with e
  have e2 : cs[ps cs m] = c := by
    rw [e]
    unfold gc
    rw [List.getD_eq_getElem?_getD, List.getElem?_eq_getElem h1]; rfl
  unfold putC
  rw [(fd_some hc).2]
  have := List.set_getElem_self h1
  rwa [e2] at this
/-- See, of a name that is known. -/
theorem see_yes {l : List Kn} {es : List Ev} {cs : List Ct} (h : Rl l cs) (hs : Srt cs) (hst : ∀ c ∈ cs, 1 ≤ c.s ∧ c.s ≤ 4) (he : es.length < 1024) {m : ByteArray} (hp : pk l m < l.length) (k : List Int) :
    decide ((seR es cs m k).1 = 0) = thr (gk l (pk l m)) k ∧
    Rl (if (gk l (pk l m)).s = false ∧ (gk l (pk l m)).k ≠ k then l.set (pk l m) ⟨(gk l (pk l m)).n, (gk l (pk l m)).k, true, (gk l (pk l m)).s⟩ else l) (nxt es cs (seR es cs m k).2).2 := by
  obtain ⟨c, hc, hK⟩ := h.yes hp
  have hn := h.isn hc
  have hf := fnC_of hc
  have hsc := hst c (fd_some hc).1
  have hat := pk_at hp
  obtain ⟨h1, h2, h3⟩ := id hK
  generalize gk l (pk l m) = a at *
  have hcn := (fd_some hc).2
  unfold seR
  rw [if_neg (by rw [hn]; decide), hf, if_neg (by omega)]
  by_cases s4 : c.s = 4
  · have aS := h2.2 s4
    rw [if_pos s4]
    refine ⟨by unfold thr; rw [aS]; simp, ?_⟩
    rw [if_neg (fun q => by rw [aS] at q; cases q.1)]
    exact h
  · have aS : a.s = false := by cases q : a.s; rfl; exact absurd (h2.1 q) s4
    rw [if_neg s4]
    by_cases s3 : c.s = 3
    · have ao := (h3 aS).2 s3
      have ncl : ¬ clm c = true := by unfold clm; rw [s3]; decide
      have hset : l.set (pk l m) ⟨a.n, a.k, true, a.s⟩ = l.set (pk l m) a := by rw [← ao]
      rw [if_neg (fun q => ncl q.1)]
      have hthr : thr a k = false := by unfold thr; rw [ao]; rfl
      have hsame : ∀ {x : Ct}, x.n = m → x.k = c.k → x.s = 3 → Rl (l.set (pk l m) ⟨a.n, a.k, true, a.s⟩) (putC cs x) := fun h5 h6 h7 => h.put hs hp hat h5 ⟨h1.trans h6.symm, ⟨(fun q => by dsimp only at q; rw [aS] at q; cases q), (fun q => by omega)⟩, fun _ => ⟨fun _ => h7, fun _ => rfl⟩⟩
      have hsame0 : Rl (l.set (pk l m) ⟨a.n, a.k, true, a.s⟩) cs := by
        have := hsame hcn rfl s3
        rwa [put_self hs hc] at this
      by_cases hk : k = c.k ∨ k = c.x
      · rw [if_pos ⟨s3, hk⟩]
        refine ⟨by rw [hthr]; rfl, ?_⟩
        split
        · exact hsame0
        · exact h
      · rw [if_neg (fun q => hk q.2), rm_room he]
        refine ⟨by rw [hthr]; rfl, ?_⟩
        have hu : up2 (fnC cs m) ⟨2, m, k⟩ = some ⟨c.n, c.k, k, 3⟩ := by rw [hf]; unfold up2; exact if_pos (.inr ⟨s3, fun q => hk (.inl q), fun q => hk (.inr q)⟩)
        dsimp only
        rw [nxt_of (e := ⟨2, m, k⟩) hn (by rw [hap_2, puO_some hu]), if_pos ⟨aS, fun q => hk (.inl (q.symm.trans h1))⟩]
        exact hsame hcn rfl rfl
    · have ao : a.o = false := by cases q : a.o; rfl; exact absurd ((h3 aS).1 q) s3
      have cl : clm c = true := by
        unfold clm
        rcases (show c.s = 1 ∨ c.s = 2 by omega) with e | e <;> rw [e] <;> rfl
      by_cases hk : k = c.k
      · rw [if_pos ⟨cl, hk⟩]
        refine ⟨by unfold thr; rw [ao, aS, h1, hk]; simp, ?_⟩
        rw [if_neg (fun q => q.2 (h1.trans hk.symm))]
        exact h
      · rw [if_neg (fun q => hk q.2), if_neg (fun q => s3 q.1), rm_room he]
        have hne : decide (c.k = k) = false := decide_eq_false (fun q => hk q.symm)
        refine ⟨by unfold thr; rw [h1, hne]; simp, ?_⟩
        have hu : up2 (fnC cs m) ⟨2, m, k⟩ = some ⟨c.n, c.k, k, 3⟩ := by rw [hf]; unfold up2; exact if_pos (.inl ⟨cl, hk⟩)
        dsimp only
        rw [nxt_of (e := ⟨2, m, k⟩) hn (by rw [hap_2, puO_some hu]), if_pos ⟨aS, fun q => hk (q.symm.trans h1)⟩]
        exact h.put hs hp hat hcn ⟨h1, ⟨(fun q => by dsimp only at q; rw [aS] at q; cases q), (fun q => by simp at q)⟩, fun _ => ⟨fun _ => rfl, fun _ => rfl⟩⟩
/-- See, of a name that isn't. -/
theorem see_no {l : List Kn} {es : List Ev} {cs : List Ct} (h : Rl l cs) (hs : Srt cs) (he : es.length < 1024) {m : ByteArray} (hp : ¬ pk l m < l.length) (k : List Int) :
    Rl (if (seR es cs m k).1 = 0 then l ++ [⟨m, k, false, false⟩] else l) (nxt es cs (seR es cs m k).2).2 := by
  have hno := h.no hp
  have hf := fnC_none hno
  unfold seR
  by_cases hn : nam m = false
  · rw [if_pos hn]; exact h
  · have hn1 : nam m = true := by cases q : nam m; exact absurd q hn; rfl
    rw [if_neg hn, hf, if_pos (show zct.s = 0 from rfl)]
    by_cases h64 : 64 ≤ cs.length
    · rw [if_pos h64]; exact h
    · rw [if_neg h64, rm_room he, if_pos rfl]
      have hsn : snC cs ⟨1, m, k⟩ = some (insC cs ⟨m, k, zr 32, 1⟩) := by
        unfold snC
        exact if_neg (fun q => q.elim (fun q => by unfold th at q; rw [hno] at q; cases q) h64)
      dsimp only
      rw [nxt_of (e := ⟨1, m, k⟩) hn1 (by rw [hap_1, hsn])]
      exact h.ins hs hn1 hp k
/-- Forget. -/
theorem forget_no {l : List Kn} {es : List Ev} {cs : List Ct} (h : Rl l cs) {m : ByteArray} (hp : ¬ pk l m < l.length) : foR es cs m = (220, none) := by
  unfold foR
  rw [fnC_none (h.no hp), if_pos (show zct.s = 0 from rfl)]
theorem forget_yes {l : List Kn} {es : List Ev} {cs : List Ct} (h : Rl l cs) (hs : Srt cs) (hst : ∀ c ∈ cs, 1 ≤ c.s ∧ c.s ≤ 4) (he : es.length < 1024) {m : ByteArray} (hp : pk l m < l.length) : (foR es cs m).1 = 0 ∧ Rl (l.take (pk l m) ++ l.drop (pk l m + 1)) (nxt es cs (foR es cs m).2).2 := by
  obtain ⟨c, hc, hK⟩ := h.yes hp
  have hn := h.isn hc
  have hsc := hst c (fd_some hc).1
  unfold foR
  rw [fnC_of hc, if_neg (by omega), rm_room he]
  refine ⟨rfl, ?_⟩
  have hg : fgC cs ⟨7, m, zr 32⟩ = some (delC cs m) := by unfold fgC; exact if_pos ⟨by unfold th; rw [hc]; rfl, rfl⟩
  dsimp only
  rw [nxt_of (e := ⟨7, m, zr 32⟩) hn (by rw [hap_7, hg])]
  exact h.del hs hp
/-- The other calls, of a name that isn't known. -/
theorem dec_no {l : List Kn} {es : List Ev} {cs : List Ct} (h : Rl l cs) (p y : List Int) (x : Opn) (hp : ¬ pk l x.n < l.length) (h1 : ¬ x.d = 1) : stE p y es cs x = none := by
  have hf := fnC_none (h.no hp)
  have z : zct.s = 0 := rfl
  unfold stE acR coR blR ubR foR
  rw [hf, if_neg h1]
  simp only [if_pos z]
  split
  · rfl
  · split
    · rfl
    · split
      · rfl
      · split
        · rfl
        · split <;> rfl
/-- .. and of one that is. -/
theorem dec_yes {l : List Kn} {es : List Ev} {cs : List Ct} (h : Rl l cs) (hs : Srt cs) (hst : ∀ c ∈ cs, 1 ≤ c.s ∧ c.s ≤ 4) (he : es.length < 1024) (p y : List Int) (x : Opn) (hp : pk l x.n < l.length) (h1 : ¬ x.d = 1) (h7 : ¬ x.d = 7) : Rl (l.set (pk l x.n) (dcK (gk l (pk l x.n)) es (nxt es cs (stE p y es cs x)).1)) (nxt es cs (stE p y es cs x)).2 := by
  obtain ⟨c, hc, hK⟩ := h.yes hp
  have hn := h.isn hc
  have hf := fnC_of hc
  have hsc := hst c (fd_some hc).1
  have hat := pk_at hp
  have hcn := (fd_some hc).2
  have hself := gk_self hp
  obtain ⟨k1, k2, k3⟩ := id hK
  generalize gk l (pk l x.n) = a at *
  have none_ : Rl (l.set (pk l x.n) (dcK a es (nxt es cs none).1)) (nxt es cs none).2 := by
    have e : dcK a es (nxt es cs none).1 = a := by unfold dcK; exact if_pos rfl
    rw [e, hself]
    exact h
  have some_ : ∀ (e : Ev) (c' : Ct), e.n = x.n → hap cs e = some (putC cs c') → c'.n = x.n → (dcE a e).n = x.n → Kc (dcE a e) c' → Rl (l.set (pk l x.n) (dcK a es (nxt es cs (some e)).1)) (nxt es cs (some e)).2 := fun e c' q1 q2 q3 q4 q5 => by
    rw [nxt_of (by rw [q1]; exact hn) q2]
    have e2 : dcK a es (es ++ [e]) = dcE a e := by
      unfold dcK
      rw [if_neg (by simp)]
      congr 1
      simp
    dsimp only
    rw [e2]
    exact h.put hs hp q4 q3 q5
  have hz : ¬ c.s = 0 := by omega
  unfold stE
  rw [if_neg h1]
  by_cases d3 : x.d = 3
  · rw [if_pos d3]
    unfold acR
    rw [hf, if_neg hz]
    by_cases s3 : c.s = 3
    · rw [if_pos s3, rm_room he]
      refine some_ ⟨3, x.n, c.x⟩ ⟨c.n, c.x, zr 32, 1⟩ rfl ?_ hcn ?_ ?_
      · rw [hap_3]
        exact puO_some (by rw [hf]; unfold up3; exact if_pos ⟨s3, rfl⟩)
      · exact hat
      · exact ⟨rfl, ⟨(fun q => by cases q), (fun q => by simp at q)⟩, fun _ => ⟨(fun q => by cases q), (fun q => by simp at q)⟩⟩
    · rw [if_neg s3]; exact none_
  · rw [if_neg d3]
    by_cases d4 : x.d = 4
    · rw [if_pos d4]
      unfold coR
      rw [hf, if_neg hz]
      by_cases s4 : c.s = 4
      · rw [if_pos s4]; exact none_
      · rw [if_neg s4]
        generalize (if x.r = true then nbr2 p x.k else x.x) = nr
        by_cases hnr : nr = nbr2 y (lat c)
        · rw [if_pos hnr, rm_room he]
          refine some_ ⟨4, x.n, lat c⟩ ⟨c.n, lat c, zr 32, 2⟩ rfl ?_ hcn ?_ ?_
          · rw [hap_4]
            exact puO_some (by rw [hf]; unfold up4; exact if_pos ⟨hz, s4, rfl⟩)
          · exact hat
          · exact ⟨rfl, ⟨(fun q => by cases q), (fun q => by simp at q)⟩, fun _ => ⟨(fun q => by cases q), (fun q => by simp at q)⟩⟩
        · rw [if_neg hnr]; exact none_
    · rw [if_neg d4]
      by_cases d5 : x.d = 5
      · rw [if_pos d5]
        unfold blR
        rw [hf, if_neg hz]
        by_cases s4 : c.s = 4
        · rw [if_pos s4]; exact none_
        · rw [if_neg s4, rm_room he]
          refine some_ ⟨5, x.n, zr 32⟩ ⟨c.n, c.k, zr 32, 4⟩ rfl ?_ hcn ?_ ?_
          · rw [hap_5]
            exact puO_some (by rw [hf]; unfold up5; exact if_pos ⟨hz, s4, rfl⟩)
          · exact hat
          · exact ⟨k1, ⟨fun _ => rfl, fun _ => rfl⟩, fun q => by cases q⟩
      · rw [if_neg d5]
        by_cases d6 : x.d = 6
        · rw [if_pos d6]
          unfold ubR
          rw [hf, if_neg hz]
          by_cases s4 : c.s = 4
          · rw [if_pos s4, rm_room he]
            refine some_ ⟨6, x.n, zr 32⟩ ⟨c.n, c.k, zr 32, 1⟩ rfl ?_ hcn ?_ ?_
            · rw [hap_6]
              exact puO_some (by rw [hf]; unfold up6; exact if_pos ⟨s4, rfl⟩)
            · exact hat
            · exact ⟨k1, ⟨(fun q => by cases q), (fun q => by simp at q)⟩, fun _ => ⟨(fun q => by cases q), (fun q => by simp at q)⟩⟩
          · rw [if_neg s4]; exact none_
        · rw [if_neg d6, if_neg h7]
          exact none_
/-- No call makes more than one event. -/
theorem nxt_len (es : List Ev) (cs : List Ct) (oe : Option Ev) : (nxt es cs oe).1.length ≤ es.length + 1 := by
  rcases nxt_ev es cs oe with e | ⟨e, _, q⟩
  · rw [e]; omega
  · rw [q]; simp
end Go.Proofs.YtlbcdjflcghkeaaDoor
