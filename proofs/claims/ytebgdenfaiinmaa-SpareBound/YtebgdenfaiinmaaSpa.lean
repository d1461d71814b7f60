import Derived.Test.YtebgdenfaiinmaaHk
import Derived.Maps.OwnSet
namespace Go.Proofs.Ytebgdenfaiinmaa
open Go Go.RowKit Go.Sort Go.ChangeMaps Go.MapKept

/-! Maps as lists of keys and values, in the order in which they were put. -/
/-- What a type of keys must answer: keys are told apart by asking. -/
structure Kty (P : Program) (k : TypeId) {κ : Type} [DecidableEq κ] (enc : κ → Value) (ok : κ → Prop) : Prop where
  chk : ∀ (w : World) (em : Bool) (x : κ), ok x → (Instr.checkKey em 10000 k (enc x)).run P w = .ok () w
  eql : ∀ (w : World) (x y : κ), ok x → ok y → (Op.equalIn 10000 k (enc x) (enc y)).run P w = .ok (decide (x = y)) w
  now : ∃ d, P.underlying k = some d ∧ ∀ a b, Instr.sameNow d a b = none
/-- Block b is a map with these keys and values. -/
def MapIs (W : World) (b : Nat) {κ : Type} (enc : κ → Value) (l : List (κ × Value)) : Prop := ∃ es c, W.heap[b]? = some (.map es c) ∧ es.toList.map (fun e => (e.key, e.val)) = l.map (fun x => (enc x.1, x.2))
/-- A key's place. -/
def plc {κ : Type} [DecidableEq κ] (x : κ) : List κ → Option Nat
  | [] => none
  | y :: r => if x = y then some 0 else (plc x r).map (· + 1)
/-- What is bound to a key. -/
def aget {κ : Type} [DecidableEq κ] (l : List (κ × Value)) (x : κ) : Option Value := (plc x (l.map (·.1))).bind fun i => (l.map (·.2))[i]?
section
variable {P : Program} {k : TypeId} {κ : Type} [DecidableEq κ] {enc : κ → Value} {ok : κ → Prop}
theorem plc_lt (x : κ) : ∀ (l : List κ) (i : Nat), plc x l = some i → i < l.length ∧ l[i]? = some x
  | [], _, h => by simp [plc] at h
  | y :: r, i, h => by
    unfold plc at h
    split at h
    · rename_i e; cases h; exact ⟨by simp, by simp [e]⟩
    · cases h2 : plc x r with
      | none => rw [h2] at h; cases h
      | some j =>
        rw [h2] at h
        cases h
        have := plc_lt x r j h2
        exact ⟨by simp; omega, by simpa using this.2⟩
theorem plc_none (x : κ) : ∀ (l : List κ), plc x l = none ↔ x ∉ l
  | [] => by simp [plc]
  | y :: r => by
    unfold plc
    split
    · rename_i e; simp [e]
    · rename_i e
      have := plc_none x r
      cases h2 : plc x r with
      | none => simp [h2] at this; simp [e, this]
      | some j => simp [h2] at this; simp [this]
theorem run_ask (K : Kty P k enc ok) (w : World) (x : κ) (hx : ok x) : ∀ (es : List MapEntry) (l : List (κ × Value)) (i : Nat), (∀ y ∈ l, ok y.1) → es.map (fun e => (e.key, e.val)) = l.map (fun y => (enc y.1, y.2)) →
    (Instr.findAsking k (enc x) es i).run P w = .ok ((plc x (l.map (·.1))).bind fun j => ((l.map (·.2))[j]?).map fun v => (i + j, v)) w
  | [], l, i, _, h => by
    cases l with
    | nil => simp [Instr.findAsking, plc]
    | cons _ _ => simp at h
  | e :: es, l, i, hl, h => by
    cases l with
    | nil => simp at h
    | cons y r =>
      simp only [List.map_cons, List.cons.injEq, Prod.mk.injEq] at h
      obtain ⟨⟨h1, h2⟩, h3⟩ := h
      have hy := hl y (by simp)
      simp only [Instr.findAsking, Sem.run_bind, Op.equal, Op.maxDepth, h1, K.eql w x y.1 hx hy, Result.andThen_ok, List.map_cons, plc]
      by_cases e1 : x = y.1
      · simp [e1, h2]
      · have ih := run_ask K w x hx es r (i + 1) (fun z hz => hl z (by simp [hz])) h3
        simp only [e1, decide_false, Bool.false_eq_true, if_false]
        rw [ih]
        cases h4 : plc x (r.map (·.1)) with
        | none => simp
        | some j => simp [Nat.add_assoc, Nat.add_comm 1 j]
theorem run_fndk (K : Kty P k enc ok) (w : World) (x : κ) (hx : ok x) (es : List MapEntry) (l : List (κ × Value)) (hl : ∀ y ∈ l, ok y.1) (h : es.map (fun e => (e.key, e.val)) = l.map (fun y => (enc y.1, y.2))) :
    (Instr.findKey k (enc x) es).run P w = .ok ((plc x (l.map (·.1))).bind fun j => ((l.map (·.2))[j]?).map fun v => (j, v)) w := by
  obtain ⟨d, hd, hn⟩ := K.now
  simp only [Instr.findKey, Sem.run_bind, run_underlying hd, Result.andThen_ok]
  cases es with
  | nil =>
    cases l with
    | nil => simp [Instr.findNow, plc]
    | cons _ _ => simp at h
  | cons e es =>
    have : Instr.findNow d (enc x) (e :: es) 0 = none := by simp [Instr.findNow, hn]
    rw [this]
    have := run_ask K w x hx (e :: es) l 0 hl h
    simpa using this
theorem run_lookm (K : Kty P k enc ok) {t e : TypeId} (ht : P.underlying t = some (.map k e)) (w : World) {z : Value} (hz : (zeroValue e).run P w = .ok z w) (b : Nat) (l : List (κ × Value)) (hm : MapIs w b enc l) (hl : ∀ y ∈ l, ok y.1) (x : κ) (hx : ok x) (c : Bool) :
    (Instr.lookup t (.map (some b)) (enc x) c).run P w = .ok (if c then .tuple #[(aget l x).getD z, .bool (aget l x).isSome] else (aget l x).getD z) w := by
  obtain ⟨es, cl, hb, he⟩ := hm
  have hf := run_fndk K w x hx es.toList l hl he
  unfold aget
  cases h : plc x (l.map (·.1)) with
  | none =>
    rw [h] at hf
    simp only [Option.bind_none] at hf
    simp [Instr.lookup, run_underlying ht, MapKept.run_getObj_map hb, K.chk w _ x hx, hf, hz, Result.andThen]
  | some i =>
    have hi := (plc_lt x _ i h).1
    simp only [List.length_map] at hi
    rw [h] at hf
    simp only [Option.bind_some, List.getElem?_map, List.getElem?_eq_getElem hi, Option.map_some] at hf
    simp [Instr.lookup, run_underlying ht, MapKept.run_getObj_map hb, K.chk w _ x hx, hf, Result.andThen, List.getElem?_eq_getElem hi]
theorem run_updm (K : Kty P k enc ok) {t e : TypeId} (ht : P.underlying t = some (.map k e)) (w : World) (b : Nat) (l : List (κ × Value)) (hm : MapIs w b enc l) (hl : ∀ y ∈ l, ok y.1) (x : κ) (hx : ok x) (v : Value) (hn : x ∉ l.map (·.1)) :
    ∃ o, (Instr.mapUpdate t (.map (some b)) (enc x) v).run P w = .ok () (setBlock w b o) ∧ MapIs (setBlock w b o) b enc (l ++ [(x, v)]) := by
  obtain ⟨es, cl, hb, he⟩ := hm
  have hf := run_fndk K w x hx es.toList l hl he
  rw [(plc_none x _).2 hn] at hf
  simp only [Option.bind_none] at hf
  refine ⟨.map (es.push { key := enc x, val := v, born := cl }) (cl + 1), ?_, _, _, heap_setBlock_same hb _, ?_⟩
  · simp [Instr.mapUpdate, run_underlying ht, MapKept.run_getObj_map hb, K.chk w _ x hx, hf, MapKept.run_setObj_map _ hb, Result.andThen, setBlock]
  · simp [he]
theorem run_delm (K : Kty P k enc ok) {t e : TypeId} (ht : P.underlying t = some (.map k e)) (ty : TypeId) (w : World) (b : Nat) (l : List (κ × Value)) (hm : MapIs w b enc l) (hl : ∀ y ∈ l, ok y.1) (x : κ) (hx : ok x) (i : Nat) (hi : plc x (l.map (·.1)) = some i) :
    ∃ o, (Builtin.delete_ #[t, k] ty #[.map (some b), enc x]).run P w = .ok (.tuple #[]) (setBlock w b o) ∧ MapIs (setBlock w b o) b enc (l.eraseIdx i) := by
  obtain ⟨es, cl, hb, he⟩ := hm
  have hf := run_fndk K w x hx es.toList l hl he
  have hil := (plc_lt x _ i hi).1
  simp only [List.length_map] at hil
  have hes : es.size = l.length := by have := congrArg List.length he; simpa using this
  rw [hi] at hf
  simp only [Option.bind_some, List.getElem?_map, List.getElem?_eq_getElem hil, Option.map_some] at hf
  have hsub : (es.eraseIdxIfInBounds i).toList = es.toList.eraseIdx i := by
    unfold Array.eraseIdxIfInBounds
    rw [dif_pos (by omega)]
    simp
  refine ⟨.map (es.eraseIdxIfInBounds i) cl, ?_, _, _, heap_setBlock_same hb _, ?_⟩
  · simp [Builtin.delete_, run_underlying ht, MapKept.run_getObj_map hb, K.chk w _ x hx, hf, MapKept.run_setObj_map _ hb, Result.andThen, setBlock]
  · rw [hsub, map_eraseIdx, map_eraseIdx, he]
end
theorem MapIs.row {κ : Type} {enc : κ → Value} {W W' : World} {b : Nat} {l : List (κ × Value)} (h : MapIs W b enc l) (hb : ∀ o, W.heap[b]? = some o → W'.heap[b]? = some o) : MapIs W' b enc l := by
  obtain ⟨es, c, h1, h2⟩ := h
  exact ⟨es, c, hb _ h1, h2⟩
theorem MapIs.lt {κ : Type} {enc : κ → Value} {W : World} {b : Nat} {l : List (κ × Value)} (h : MapIs W b enc l) : b < W.heap.size := by
  obtain ⟨es, c, h1, h2⟩ := h
  exact lt_of_row h1
end Go.Proofs.Ytebgdenfaiinmaa
