import Derived.Test.YtnbkdlfkacbfjaaProg
import Derived.WalkKit
import Derived.WalkSpells
import Derived.WalkLawsBesides
import Derived.Lib.QuietBelow
import Derived.Laws.BitsAllLaws
import Derived.BigQuiet
import Derived.WalkMore
import Derived.Test.YtnbkdlfkacbfjaaKit
import Derived.Test.YtnbkdlfkacbfjaaWq
namespace Go.Proofs.Ytnbkdlfkacbfjaa
open Go Go.RowKit Go.Sort
attribute [local go_sem] setCell_drewN alloc_drewN

/-- No block but v's own has turned. -/
def Frm (w w' : World) (v : Value) : Prop := ∀ k, k < w.heap.size → v.ownBlock ≠ some k → w'.heap[k]? = w.heap[k]?
/-- v' lies where v lay, or in a new block. -/
def Nx (w : World) (v v' : Value) : Prop := v'.ownBlock = v.ownBlock ∨ ∃ k, v'.ownBlock = some k ∧ w.heap.size ≤ k
theorem Frm.refl (w : World) (v : Value) : Frm w w v := fun _ _ _ => rfl
theorem Nx.refl (w : World) (v : Value) : Nx w v v := .inl rfl
theorem Nx.trans {w W : World} {v s s' : Value} (h : Nx w v s) (hs : w.heap.size ≤ W.heap.size) (h2 : Nx W s s') : Nx w v s' := by
  rcases h2 with e | ⟨k, e, hk⟩
  · rcases h with e2 | ⟨k, e2, hk⟩
    · exact .inl (e.trans e2)
    · exact .inr ⟨k, e.trans e2, hk⟩
  · exact .inr ⟨k, e, by omega⟩
theorem Nx.unalloc {W : World} {o : Obj} {s s' : Value} (h : Nx (W.alloc o) s s') : Nx W s s' := by
  rcases h with e | ⟨k, e, hk⟩
  · exact .inl e
  · exact .inr ⟨k, e, by rw [size_alloc1] at hk; omega⟩
theorem Nx.ne {w : World} {v s : Value} (h : Nx w v s) {k : Nat} (hk : k < w.heap.size) (hv : v.ownBlock ≠ some k) : s.ownBlock ≠ some k := by
  rcases h with e | ⟨k', e, hk'⟩
  · rw [e]; exact hv
  · rw [e]; intro e2; cases e2; omega
theorem Frm.step {w W V : World} {v s : Value} (h : Frm w W v) (hs : w.heap.size ≤ W.heap.size) (hn : Nx w v s) (hg : W.grownBy V s.ownBlock) : Frm w V v := fun k hk hv =>
  (hg.block k (by omega) (fun e => hn.ne hk hv e.symm)).trans (h k hk hv)
theorem Frm.alloc {w W : World} {v : Value} (h : Frm w W v) (hs : w.heap.size ≤ W.heap.size) (o : Obj) : Frm w (W.alloc o) v := fun k hk hv => by
  rw [← h k hk hv]
  show (W.heap.push o)[k]? = _
  rw [Array.getElem?_push, if_neg (by omega)]
theorem Frm.trans {w W V : World} {v s : Value} (h : Frm w W v) (hs : w.heap.size ≤ W.heap.size) (hn : Nx w v s) (h2 : Frm W V s) : Frm w V v := fun k hk hv => (h2 k (by omega) (hn.ne hk hv)).trans (h k hk hv)
theorem Frm.below {w W V : World} {v : Value} (h : Frm w W v) (hs : w.heap.size ≤ W.heap.size) (hb : Below W.heap.size W V) : Frm w V v := fun k hk hv => (hb.block k (by omega)).trans (h k hk hv)
theorem Frm.cell {w W : World} {v : Value} (h : Frm w W v) {b o : Nat} (hb : b < w.heap.size) (hv : v.ownBlock ≠ some b) : W.cell? ⟨b, o, none⟩ = w.cell? ⟨b, o, none⟩ := World.cell?_of_block (a := ⟨b, o, none⟩) (h b hb hv)
theorem Frm.bys {w W : World} {v u : Value} {d : List B} (h : Frm w W v) (hs : w.heap.size ≤ W.heap.size) (hu : BysB w u d) (hne : ∀ a l c, u = .slice (some a) l c → 0 < d.length → v.ownBlock ≠ some a.block) : BysB W u d := by
  obtain ⟨⟨ao, cap, rfl, hl, hc, hz⟩, h2, h3⟩ := hu
  refine ⟨⟨ao, cap, rfl, hl, fun j hj => ?_, hz⟩, h2, h3⟩
  obtain ⟨b, off, e, hb, hcl⟩ := hc j hj
  subst e
  exact ⟨b, off, rfl, by omega, (h.cell hb (hne _ _ _ rfl (by rw [bl_len] at hj; omega))).trans hcl⟩
theorem wp_append_nx {P : Program} {w : World} {o : Oper} {a : Act} {K : Act → World → Prop} {Q : Exit → Act → World → Prop} (s x : Operand) (t : TypeId)
    (ho : o.op = .call { callee := .builtin .append, args := #[s, x], argTypes := #[t, t] })
    (base : Nat) (e : TypeId) (i : TypeInfo) (z : Value) (size bytes : Nat) (ht : P.underlying t = some (.slice e)) (hi : P.info? e = some i) (hz : i.zero = some z)
    (hsize : i.size = size) (hby : i.bytes = bytes) (hzs : z.cells.size = size) (hsz : 0 < size)
    (v : Value) (n : Nat) (xs : List Value) (hs : a.eval s = v) (hown : w.ownsRow base e size v n xs)
    (ad : Addr) (m c : Nat) (news : List Value) (hx : a.eval x = .slice (some ad) m c) (hl : news.length = m * size) (hnews : ∀ j u, news[j]? = some u → w.cell? (ad.add j) = some u) (h1 : ∀ u ∈ news, u.oneCell' = true)
    (h63 : n + m ≤ maxLen) (hbytes : (n + m) * bytes ≤ 140737488355328) (hbase : base ≤ w.heap.size)
    (h : ∀ v' w', w'.ownsRow base e size v' (n + m) (xs ++ news) → w.grownBy w' v.ownBlock → Nx w v v' → K (a.put o.dst v') w') : o.wp P a w K Q := by
  obtain ⟨v', w', hr, h2, h3, h4⟩ := run_append_own (P := P) w base t o.type e i z size bytes ht hi hz hsize hby hzs hsz _ n xs hown ad m c news hl hnews h1 h63 hbytes hbase
  have key : Nx w v v' := by
    rcases hown.2 with ⟨rfl, hn0⟩ | ⟨g1, cap1, cur, rfl, hbg, hg, hnc, hcm, hcs, htake⟩
    · have hown2 : w.ownsRow w.heap.size e size (.slice none 0 0) n xs := ⟨hown.1, .inl ⟨rfl, hn0⟩⟩
      obtain ⟨v2, w2, hr2, g2, _, g4⟩ := run_append_own (P := P) w w.heap.size t o.type e i z size bytes ht hi hz hsize hby hzs hsz _ n xs hown2 ad m c news hl hnews h1 h63 hbytes (Nat.le_refl _)
      have he := hr.symm.trans hr2
      injection he with e1 e2
      subst e1
      rcases g2.2 with ⟨hv, _⟩ | ⟨g, cap, _, hv, hbg, _⟩
      · exact .inl (by rw [hv])
      · exact .inr ⟨g, by rw [hv]; rfl, hbg⟩
    · by_cases hroom : n + m ≤ cap1
      · have hr2 := run_append_room (P := P) w t o.type e i ht hi g1 n cap1 cur hg ad m c news (by rw [hsize]; exact hl) hnews h1 hroom (by rw [hsize, hl, hcs, ← Nat.add_mul]; exact Nat.mul_le_mul_right _ hroom)
        have he := hr.symm.trans hr2
        injection he with e1 e2
        exact .inl (by rw [e1]; rfl)
      · have holds : ∀ j u, xs[j]? = some u → w.cell? ((⟨g1, 0, none⟩ : Addr).add j) = some u := hown.cells (g := g1) rfl
        have hr2 := run_append_grow (P := P) w t o.type e i z ht hi hz ⟨g1, 0, none⟩ n cap1 xs (by rw [hsize]; exact hown.1) holds ad m c news (by rw [hsize]; exact hl) hnews (by omega) (by simp only [maxLen] at h63; omega) (growslice_fits (by omega) (by rw [hby]; exact hbytes))
        have he := hr.symm.trans hr2
        injection he with e1 e2
        exact .inr ⟨w.heap.size, by rw [e1]; rfl, Nat.le_refl _⟩
  unfold Oper.wp execOp
  simp only [ho, resolve, invoke, builtin, Sem.run_bind, Sem.run_pure, Result.andThen_ok, List.map_toArray, List.map_cons, List.map_nil, hs, hx, hr]
  exact h v' w' h2 h3 key
/-- Bytes laid behind a list of one's own. -/
theorem wpList_append_N {w : World} {ops : Array Oper} {rest : List Oper} {o : Oper} {a : Act} {Q : Exit → Act → World → Prop} (hgd : o.guard = none) (s x : Operand) (ho : o.op = .call { callee := .builtin .append, args := #[s, x], argTypes := #[22, 22] }) (base : Nat) (v : Value) (d : List B) (hs : a.eval s = v) (hO : Own w base v d) (y : Value) (e : List B) (hx : a.eval x = y) (hE : BysB w y e) (hlen : d.length + e.length ≤ 140737488355328) (hbase : base ≤ w.heap.size)
    (h : ∀ v' w', Own w' base v' (d ++ e) → w.grownBy w' v.ownBlock → Nx w v v' → wpList Try.prog ops Q rest (a.put o.dst v') w') : wpList Try.prog ops Q (o :: rest) a w := by
  refine wpList_plain hgd fun _ hK => ?_
  obtain ⟨i0, hi, hz0, hz1, hz2⟩ := info8
  obtain ⟨⟨ao, cap, rfl, _, hc, _⟩, _, hnil⟩ := hE
  rw [bl_len] at hx hnil hc
  have hfin : ∀ v' w', w'.ownsRow base 5 1 v' (d.length + e.length) ((bl d).map (Value.int .u8) ++ (bl e).map (Value.int .u8)) → w.grownBy w' v.ownBlock → Nx w v v' → wpList Try.prog ops Q rest (a.put o.dst v') w' := fun v' w' h1 h2 h3 => h v' w' (by
    unfold Own
    rw [List.length_append, bl, List.map_append, List.map_append]
    exact h1) h2 h3
  cases ao with
  | some ad =>
    refine wp_append_nx s x 22 ho base 5 i0 (.int .u8 0) 1 1 Try.underlying22 hi hz0 hz1 hz2 rfl (by decide) v d.length ((bl d).map (Value.int .u8)) hs hO ad e.length cap ((bl e).map (Value.int .u8)) hx (by rw [List.length_map, bl_len, Nat.mul_one]) (fun j u hu => ?_) (ints_one .u8 _) (by unfold maxLen; omega) (by omega) hbase (fun v' w' h2 h3 h4 => hK _ _ (hfin v' w' h2 h3 h4))
    rw [List.getElem?_map] at hu
    obtain ⟨z, hz, rfl⟩ := Option.map_eq_some_iff.1 hu
    have hj : j < e.length := by have := (List.getElem?_eq_some_iff.1 hz).1; rwa [bl_len] at this
    obtain ⟨b, off, he, _, hcell⟩ := hc j hj
    obtain rfl := Option.some.inj he
    rw [addr_add, hcell, List.getD_eq_getElem?_getD, hz]
    rfl
  | none =>
    have hn0 : e.length = 0 := Nat.eq_zero_of_not_pos (fun h0 => by obtain ⟨b, off, he, _⟩ := hc 0 h0; cases he)
    obtain rfl := hnil _ _ _ rfl rfl
    have he0 : e = [] := List.length_eq_zero_iff.1 hn0
    subst he0
    have hrun := run_append_owned_none (P := Try.prog) w base 22 o.type 5 i0 1 Try.underlying22 hi _ d.length _ hO
    unfold Oper.wp
    simp [execOp, ho, resolve, invoke, builtin, hs, hx, hrun, Result.andThen]
    have h_ := hfin v w (by simpa [bl, Own] using hO) (World.grownBy.refl _ _) (Nx.refl _ _)
    exact hK _ _ h_
theorem fx_snoc : ∀ (k n : Nat), fx (k + 1) n = fx k n ++ [BitVec.ofNat 8 (n / 256 ^ k % 256)]
  | 0, n => by rw [fx, fx, fx, Nat.pow_zero, Nat.div_one]; rfl
  | k + 1, n => by
    rw [fx, fx_snoc k (n / 256), fx, List.cons_append, Nat.div_div_eq_div_mul, Nat.pow_succ, Nat.mul_comm 256]
theorem by_mod (n : Nat) : (n : Int) % 256 = bv (BitVec.ofNat 8 (n % 256)) := by
  rw [bv, BitVec.toNat_ofNat]; omega
theorem by_shr (n j : Nat) : (n : Int) / 2 ^ (8 * j) % 256 = bv (BitVec.ofNat 8 (n / 256 ^ j % 256)) := by
  have h : (2 : Int) ^ (8 * j) = ((256 ^ j : Nat) : Int) := by
    rw [show (256 : Nat) = 2 ^ 8 from rfl, ← Nat.pow_mul]
    simp
  rw [h, ← by_mod, ← Int.natCast_ediv]
end Go.Proofs.Ytnbkdlfkacbfjaa
