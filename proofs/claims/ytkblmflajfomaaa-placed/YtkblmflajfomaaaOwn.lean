/- Several rows of one's own: slices that grow by append, no two in one array. -/
import Derived.Test.YtkblmflajfomaaaWords1
namespace Go.Proofs.Ytkblmflajfomaaa
open Go.RowKit

/-- Where a slice lies: its address, its capacity. -/
structure Hd where
  ao : Option Addr
  cap : Nat
def Hd.blk (h : Hd) : Option Nat := h.ao.map (·.block)
/-- What a slice holds: its elements' type, the cells of one, how many, all cells. -/
structure Row where
  e : TypeId
  size : Nat
  n : Nat
  xs : List Value
def Owns (w : World) (h : Hd) (r : Row) : Prop := w.ownsRow 0 r.e r.size (.slice h.ao r.n h.cap) r.n r.xs

theorem own_blk (h : Hd) (n : Nat) : (Value.slice h.ao n h.cap).ownBlock = h.blk := by
  unfold Hd.blk; cases h.ao <;> rfl

theorem Owns.lt {w : World} {h : Hd} {r : Row} (o : Owns w h r) {k : Nat} (hk : h.blk = some k) : k < w.heap.size :=
  (World.ownsRow.lt (h := o) k (by rw [own_blk]; exact hk)).2

theorem Owns.moved {w w' : World} {h : Hd} {r : Row} (o : Owns w h r) (hw : ∀ k, h.blk = some k → w'.heap[k]? = w.heap[k]?) : Owns w' h r := by
  refine ⟨o.1, ?_⟩
  rcases o.2 with hn | ⟨g, cap, cur, hv, hb, hh, h1, h2, h3, h4⟩
  · exact Or.inl hn
  · refine Or.inr ⟨g, cap, cur, hv, hb, ?_, h1, h2, h3, h4⟩
    rw [hw g (by unfold Hd.blk; injection hv with hv; rw [hv]; rfl)]; exact hh

/-- The two shapes of an owned slice. -/
theorem Owns.ways {w : World} {h : Hd} {r : Row} (o : Owns w h r) :
    (h = ⟨none, 0⟩ ∧ r.n = 0 ∧ r.xs = []) ∨ ∃ g cur, h.ao = some ⟨g, 0, none⟩ ∧ w.heap[g]? = some (.cells cur r.e (0, 0)) ∧ r.n ≤ h.cap ∧ h.cap ≤ maxLen ∧ cur.size = h.cap * r.size ∧ cur.toList.take (r.n * r.size) = r.xs := by
  rcases o.2 with ⟨hv, hn⟩ | ⟨g, cap, cur, hv, hb, hh, h1, h2, h3, h4⟩
  · left
    injection hv with a1 a2 a3
    refine ⟨by cases h; simp_all, hn, List.eq_nil_of_length_eq_zero (by rw [o.1, hn]; simp)⟩
  · right
    injection hv with a1 a2 a3
    subst a3
    exact ⟨g, cur, a1, hh, h1, h2, h3, h4⟩

theorem addr_add (g j : Nat) : (⟨g, 0, none⟩ : Addr).add j = ⟨g, j, none⟩ := by
  simp only [Addr.add]
  split
  · next h => subst h; rfl
  · simp

theorem Owns.cell {w : World} {h : Hd} {r : Row} (o : Owns w h r) {g : Nat} (hg : h.ao = some ⟨g, 0, none⟩) (j : Nat) (u : Value) (hj : r.xs[j]? = some u) : w.cell? ⟨g, j, none⟩ = some u := by
  have := o.cells (g := g) (by rw [own_blk]; unfold Hd.blk; rw [hg]; rfl) j u hj
  rw [addr_add] at this; exact this

/-- APPEND onto an owned slice: what is owned then, in the same array or in a new one. -/
theorem wpList_append_row {P : Program} (w : World) {ops : Array Oper} {rest : List Oper} {o : Oper} {a : Act} {Q : Exit → Act → World → Prop}
    (hg : o.guard = none) (s x : Operand) (t : TypeId) (hop : o.op = Op.call { callee := Callee.builtin Builtin.append, args := #[s, x], argTypes := #[t, t] })
    (i : TypeInfo) (z : Value) (bytes : Nat) (h : Hd) (r : Row) (h1 : P.underlying t = some (.slice r.e)) (h2 : P.info? r.e = some i) (h3 : i.zero = some z) (h4 : i.size = r.size) (h5 : i.bytes = bytes) (h6 : z.cells.size = r.size) (h7 : 0 < r.size)
    (hs : a.eval s = .slice h.ao r.n h.cap) (hown : Owns w h r)
    (ad : Addr) (m c : Nat) (news : List Value) (hx : a.eval x = .slice (some ad) m c) (hn : news.length = m * r.size) (hc : ∀ j u, news[j]? = some u → w.cell? (ad.add j) = some u) (h1c : ∀ u ∈ news, u.oneCell' = true)
    (hm : 0 < m) (b1 : r.n + m ≤ maxLen) (b2 : (r.n + m) * bytes ≤ 140737488355328)
    (hK : ∀ g cap' w', Owns w' ⟨some ⟨g, 0, none⟩, cap'⟩ ⟨r.e, r.size, r.n + m, r.xs ++ news⟩ → w.grownBy w' h.blk → (h.blk = some g ∨ w.heap.size ≤ g) → wpList P ops Q rest (a.put o.dst (.slice (some ⟨g, 0, none⟩) (r.n + m) cap')) w') :
    wpList P ops Q (o :: rest) a w := by
  rcases hown.ways with ⟨e1, e2, e3⟩ | ⟨g, cur, e1, e2, e3, e4, e5, e6⟩
  · refine wpList_append_grows w hg s x t hop r.e i z r.size bytes h1 h2 h3 h4 h5 h6 h7 none 0 0 [] (by rw [hs, e1, e2]) (fun _ => ⟨rfl, rfl⟩) (by simp) (by intro b hb; cases hb) ad m c news hx hn hc h1c (by omega) (by omega) (by rw [e2] at b2; exact b2) ?_
    intro v' w' hw hgr
    rcases hw.2 with ⟨_, q⟩ | ⟨g, cap', cur, q1, q2, q3, q4, q5, q6, q7⟩
    · omega
    · have := hK g cap' w' ⟨by have := hw.1; simpa [e3, e2] using this, Or.inr ⟨g, cap', cur, by simp, Nat.zero_le _, q3, by simpa [e2] using q4, q5, q6, by simpa [e2, e3] using q7⟩⟩ (by rw [e1]; exact hgr) (Or.inr q2)
      rw [q1]; simpa [e2] using this
  · by_cases hf : r.n + m ≤ h.cap
    · refine wpList_append_fits w hg s x t hop 0 r.e i r.size h1 h2 h4 g r.n h.cap r.xs (by rw [hs, e1]) (by have := hown; unfold Owns at this; rw [e1] at this; exact this) ad m c news hx hn hc h1c hf ?_
      intro w' hw hgr
      exact hK g h.cap w' hw (by unfold Hd.blk; rw [e1]; exact hgr) (Or.inl (by unfold Hd.blk; rw [e1]; rfl))
    · refine wpList_append_grows w hg s x t hop r.e i z r.size bytes h1 h2 h3 h4 h5 h6 h7 (some ⟨g, 0, none⟩) r.n h.cap r.xs (by rw [hs, e1]) (by intro hh; cases hh) hown.1 (by intro b hb j u hj; cases hb; rw [addr_add]; exact hown.cell e1 j u hj) ad m c news hx hn hc h1c (by omega) b1 b2 ?_
      intro v' w' hw hgr
      rcases hw.2 with ⟨_, q⟩ | ⟨g', cap', cur', q1, q2, q3, q4, q5, q6, q7⟩
      · omega
      · have := hK g' cap' w' ⟨hw.1, Or.inr ⟨g', cap', cur', rfl, Nat.zero_le _, q3, q4, q5, q6, q7⟩⟩ ⟨hgr.os, hgr.tape, hgr.output, hgr.size, fun k hk _ => hgr.block k hk (by simp)⟩ (Or.inr q2)
        rw [q1]; exact this

end Go.Proofs.Ytkblmflajfomaaa
