import Derived.Test.YtcipkfhpcbddiaaGreatG11
import Derived.Test.YtcipkfhpcbddiaaGreatQSpl
import Derived.Test.YtcipkfhpcbddiaaGreatQFr5
/- Package metaproofkeep: a frame that was read: the form, as a value and in memory. -/
namespace Go.Proofs.YtcipkfhpcbddiaaGreat
open Go.RowKit

structure Fm where
  hyps : List ByteArray
  which : List Int
  vars : List ByteArray
  types : List ByteArray
  ess : List (List ByteArray)
  left : List ByteArray
  right : List ByteArray
  goal : List ByteArray
def fm0 : Fm := ⟨[], [], [], [], [], [], [], []⟩
def isD (ws : List ByteArray) : Bool := (gD ws 0).toList == [36, 100]
def isKey (ws : List ByteArray) (c : UInt8) : Bool := (gD ws 1).toList == [36, c]
/-- One line more. -/
def stepF (f : Fm) (ws : List ByteArray) : Fm :=
  if isD ws = true then { f with left := f.left ++ [gD ws 1], right := f.right ++ [gD ws 2] }
  else if isKey ws 102 = true ∧ ws.length = 4 then { f with hyps := f.hyps ++ [gD ws 0], which := f.which ++ [(f.vars.length : Int)], types := f.types ++ [gD ws 2], vars := f.vars ++ [gD ws 3] }
  else if isKey ws 101 = true then { f with hyps := f.hyps ++ [gD ws 0], which := f.which ++ [-1 - (f.ess.length : Int)], ess := f.ess ++ [ws.drop 2] }
  else { f with goal := ws.drop 2 }
def formTo (L : List ByteArray) (k : Nat) : Fm := (L.take k).foldl (fun f x => stepF f (splitF x)) fm0
theorem formTo_next (L : List ByteArray) (k : Nat) (h : k < L.length) : formTo L (k + 1) = stepF (formTo L k) (splitF L[k]) := by
  unfold formTo; rw [take_snoc L k h, List.foldl_append]; rfl
def formF (L : List ByteArray) : Fm := formTo L L.length
/-- A line that a frame may have. -/
structure LineOk (lab : ByteArray) (last : Bool) (x : ByteArray) : Prop where
  size : x.size ≤ 1073741824
  len : 3 ≤ (splitF x).length
  way : isD (splitF x) = true ∨ (isD (splitF x) = false ∧ ((isKey (splitF x) 102 = true ∧ (splitF x).length = 4) ∨ (isKey (splitF x) 102 = false ∧ (isKey (splitF x) 101 = true ∨ (isKey (splitF x) 101 = false ∧ (isKey (splitF x) 97 = true ∨ isKey (splitF x) 112 = true) ∧ ((gD (splitF x) 0).toList == lab.toList) = true ∧ last = true)))))

def rowI (l : List Int) : Row := ⟨3, 1, l.length, l.map (Value.int .i64)⟩
theorem rowI_snoc (l : List Int) (x : Int) : (⟨(rowI l).e, (rowI l).size, (rowI l).n + 1, (rowI l).xs ++ [.int .i64 x]⟩ : Row) = rowI (l ++ [x]) := by simp [rowI]
def fmL (lab : ByteArray) (lv : Value) (f : Fm) (es : List Ex) (hg : Hd) (H : Nat → Hd) : List Value :=
  [.string lab, lv, .slice (H 0).ao f.hyps.length (H 0).cap, .slice (H 1).ao f.which.length (H 1).cap, .slice (H 2).ao f.vars.length (H 2).cap, .slice (H 3).ao f.types.length (H 3).cap, .slice (H 4).ao es.length (H 4).cap, .slice (H 5).ao f.left.length (H 5).cap, .slice (H 6).ao f.right.length (H 6).cap, .slice hg.ao f.goal.length hg.cap]
def fmR (f : Fm) (es : List Ex) : Nat → Row
  | 0 => rowS f.hyps
  | 1 => rowI f.which
  | 2 => rowS f.vars
  | 3 => rowS f.types
  | 4 => rowE es
  | 5 => rowS f.left
  | 6 => rowS f.right
  | _ + 7 => rowS []
/-- The form in memory; all of it lies from block n on. -/
structure FmIs (w : World) (F n : Nat) (lab : ByteArray) (lv : Value) (f : Fm) (es : List Ex) (hg : Hd) (H : Nat → Hd) : Prop where
  bag : BagIs w F 67 (fmL lab lv f es hg H) (fmR f es) H
  new : n ≤ F ∧ ∀ k, InH H k → n ≤ k
  exs : ∀ e ∈ es, ExOk w F H e
  ess : es.map (·.xs) = f.ess
  gl : View w hg f.goal ∧ ∀ x, hg.blk = some x → x < w.heap.size ∧ x ≠ F ∧ ¬ InH H x
theorem FmIs.still {w w' : World} {F n : Nat} {lab : ByteArray} {lv : Value} {f : Fm} {es : List Ex} {hg : Hd} {H : Nat → Hd} (h : FmIs w F n lab lv f es hg H) (k : Kept [] w w') : FmIs w' F n lab lv f es hg H :=
  ⟨h.bag.still k, h.new, fun e he => (h.exs e he).still k, h.ess, h.gl.1.still k, fun x hx => ⟨Nat.lt_of_lt_of_le (h.gl.2 x hx).1 k.size, (h.gl.2 x hx).2⟩⟩
/-- Behind an append to a list of the form's. -/
theorem FmIs.app {w w1 : World} {F n : Nat} {lab : ByteArray} {lv : Value} {f f' : Fm} {es es' : List Ex} {hg : Hd} {H : Nat → Hd} (h : FmIs w F n lab lv f es hg H) (hn : n ≤ w.heap.size) (c i g cap' m : Nat) (r : Row)
    (hw1 : Owns w1 ⟨some ⟨g, 0, none⟩, cap'⟩ r) (hr : r = fmR f' es' i) (hgr : w.grownBy w1 (H i).blk) (hfresh : (H i).blk = some g ∨ w.heap.size ≤ g)
    (hrow : ∀ j, j ≠ i → fmR f' es' j = fmR f es j) (v0 : Value) (hv : (fmL lab lv f es hg H)[c]? = some v0) (hl : (fmL lab lv f es hg H).set c (.slice (some ⟨g, 0, none⟩) m cap') = fmL lab lv f' es' hg (upd H i ⟨some ⟨g, 0, none⟩, cap'⟩))
    (hex : ∀ e ∈ es', ExOk w F H e) (hes : es'.map (·.xs) = f'.ess) (hgo : f'.goal = f.goal) :
    w1.cell? ⟨F, c, none⟩ = some v0 ∧ w1.frozen? ⟨F, c, none⟩ = false ∧
    Hid (FmIs (w1.setCell ⟨F, c, none⟩ (.slice (some ⟨g, 0, none⟩) m cap')) F n lab lv f' es' hg (upd H i ⟨some ⟨g, 0, none⟩, cap'⟩) ∧
      Turned F w H (w1.setCell ⟨F, c, none⟩ (.slice (some ⟨g, 0, none⟩) m cap')) (upd H i ⟨some ⟨g, 0, none⟩, cap'⟩)) := by
  obtain ⟨a1, a2, a3⟩ := h.bag.app (rows' := fmR f' es') c i g cap' m r hw1 hr hgr hfresh hrow v0 hv hl
  obtain ⟨b1, b2⟩ := a3.out
  refine ⟨a1, a2, ⟨⟨b1, ⟨h.new.1, ?_⟩, fun e he => (hex e he).turned b2, hes, ?_, ?_⟩, b2⟩⟩
  · intro k hk
    rcases b2.2 k hk with hk | hk
    · exact h.new.2 k hk
    · omega
  · rw [hgo]
    refine h.gl.1.keptP b2.1 (fun x hx => ?_)
    obtain ⟨_, h2, h3⟩ := h.gl.2 x hx
    rintro (e | e)
    · exact h2 e
    · exact h3 e
  · intro x hx
    obtain ⟨h1, h2, h3⟩ := h.gl.2 x hx
    exact ⟨Nat.lt_of_lt_of_le h1 b2.1.size, h2, b2.fresh x h1 h3⟩
/-- What such an append leaves of what was there ahead of the form. -/
theorem Kept.turned {w w1 w2 : World} {F : Nat} {H H' : Nat → Hd} (k : Kept [] w w1) (t : Turned F w1 H w2 H') (hF : w.heap.size ≤ F) (hH : ∀ x, InH H x → w.heap.size ≤ x) : Kept [] w w2 :=
  ⟨t.1.os.trans k.os, t.1.tape.trans k.tape, t.1.output.trans k.output, Nat.le_trans k.size t.1.size, fun i hi _ => (t.1.block i (Nat.lt_of_lt_of_le hi k.size) (fun q => q.elim (fun e => by omega) (fun e => by have := hH i e; omega))).trans (k.block i hi (by simp))⟩
/-- Behind the goal. -/
theorem FmIs.goal {w : World} {F n : Nat} {lab : ByteArray} {lv : Value} {f : Fm} {es : List Ex} {hg : Hd} {H : Nat → Hd} (h : FmIs w F n lab lv f es hg H) (g' : List ByteArray) (hg' : Hd) (hv : View w hg' g') (hf : ∀ x, hg'.blk = some x → x < w.heap.size ∧ x ≠ F ∧ ¬ InH H x) :
    FmIs (w.setCell ⟨F, 9, none⟩ (.slice hg'.ao g'.length hg'.cap)) F n lab lv { f with goal := g' } es hg' H ∧ Turned F w H (w.setCell ⟨F, 9, none⟩ (.slice hg'.ao g'.length hg'.cap)) H := by
  obtain ⟨b1, b2⟩ := h.bag.set 9 (.slice hg'.ao g'.length hg'.cap)
  refine ⟨⟨b1, h.new, fun e he => (h.exs e he).turned b2, h.ess, ?_, ?_⟩, b2⟩
  · refine hv.keptP b2.1 (fun x hx => ?_)
    obtain ⟨_, h2, h3⟩ := hf x hx
    rintro (e | e)
    · exact h2 e
    · exact h3 e
  · intro x hx
    obtain ⟨h1, h2, h3⟩ := hf x hx
    exact ⟨Nat.lt_of_lt_of_le h1 b2.1.size, h2, h3⟩

/-- The form, its lines and the words of a line, on the way. -/
structure FmSt (w0 w : World) (F g : Nat) (lab : ByteArray) (L : List ByteArray) (f : Fm) (es : List Ex) (hg : Hd) (H : Nat → Hd) (gt tc : Nat) (ws : List ByteArray) : Prop where
  fm : FmIs w F w0.heap.size lab (.slice (some ⟨g, 0, none⟩) L.length L.length) f es hg H
  lns : LnsAt w g L L.length
  gf : w0.heap.size ≤ g ∧ g ≠ F ∧ ¬ InH H g
  tw : Owns w ⟨some ⟨gt, 0, none⟩, tc⟩ (rowS ws)
  tf : gt ≠ F ∧ ¬ InH H gt
  kept : Kept [] w0 w
theorem FmSt.still {w0 w w' : World} {F g : Nat} {lab : ByteArray} {L : List ByteArray} {f : Fm} {es : List Ex} {hg : Hd} {H : Nat → Hd} {gt tc : Nat} {ws : List ByteArray} (h : FmSt w0 w F g lab L f es hg H gt tc ws) (k : Kept [] w w') : FmSt w0 w' F g lab L f es hg H gt tc ws :=
  ⟨h.fm.still k, h.lns.kept k (by simp), h.gf, h.tw.moved (fun x hx => k.block x (h.tw.lt hx) (by simp)), h.tf, h.kept.trans k⟩
theorem FmSt.turn {w0 w w' : World} {F g : Nat} {lab : ByteArray} {L : List ByteArray} {f f' : Fm} {es es' : List Ex} {hg hg' : Hd} {H H' : Nat → Hd} {gt tc : Nat} {ws : List ByteArray} (h : FmSt w0 w F g lab L f es hg H gt tc ws)
    (b : FmIs w' F w0.heap.size lab (.slice (some ⟨g, 0, none⟩) L.length L.length) f' es' hg' H') (t : Turned F w H w' H') : FmSt w0 w' F g lab L f' es' hg' H' gt tc ws := by
  have hgl := lt_of_get h.lns
  have htl := h.tw.lt (k := gt) rfl
  refine ⟨b, ?_, ⟨h.gf.1, h.gf.2.1, t.fresh g hgl h.gf.2.2⟩, ?_, ⟨h.tf.1, t.fresh gt htl h.tf.2⟩, h.kept.turned t h.fm.new.1 h.fm.new.2⟩
  · exact t.1.get h.lns (by rintro (e | e); exact h.gf.2.1 e; exact h.gf.2.2 e)
  · refine h.tw.moved (fun x hx => t.1.block x (h.tw.lt hx) ?_)
    have e : x = gt := by simp [Hd.blk] at hx; exact hx.symm
    subst e
    rintro (e | e)
    · exact h.tf.1 e
    · exact h.tf.2 e
theorem FmSt.app {w0 w w1 : World} {F g : Nat} {lab : ByteArray} {L : List ByteArray} {f f' : Fm} {es es' : List Ex} {hg : Hd} {H : Nat → Hd} {gt tc : Nat} {ws : List ByteArray} (h : FmSt w0 w F g lab L f es hg H gt tc ws) (c i g5 cap' m : Nat) (r : Row)
    (hw1 : Owns w1 ⟨some ⟨g5, 0, none⟩, cap'⟩ r) (hr : r = fmR f' es' i) (hgr : w.grownBy w1 (H i).blk) (hfresh : (H i).blk = some g5 ∨ w.heap.size ≤ g5)
    (hrow : ∀ j, j ≠ i → fmR f' es' j = fmR f es j) (v0 : Value) (hv : (fmL lab (.slice (some ⟨g, 0, none⟩) L.length L.length) f es hg H)[c]? = some v0) (hl : (fmL lab (.slice (some ⟨g, 0, none⟩) L.length L.length) f es hg H).set c (.slice (some ⟨g5, 0, none⟩) m cap') = fmL lab (.slice (some ⟨g, 0, none⟩) L.length L.length) f' es' hg (upd H i ⟨some ⟨g5, 0, none⟩, cap'⟩))
    (hex : ∀ e ∈ es', ExOk w F H e) (hes : es'.map (·.xs) = f'.ess) (hgo : f'.goal = f.goal) :
    w1.cell? ⟨F, c, none⟩ = some v0 ∧ w1.frozen? ⟨F, c, none⟩ = false ∧
    Hid (FmSt w0 (w1.setCell ⟨F, c, none⟩ (.slice (some ⟨g5, 0, none⟩) m cap')) F g lab L f' es' hg (upd H i ⟨some ⟨g5, 0, none⟩, cap'⟩) gt tc ws) := by
  obtain ⟨a1, a2, a3⟩ := h.fm.app h.kept.size c i g5 cap' m r hw1 hr hgr hfresh hrow v0 hv hl hex hes hgo
  exact ⟨a1, a2, h.turn a3.out.1 a3.out.2⟩
theorem FmSt.word {w0 w : World} {F g : Nat} {lab : ByteArray} {L : List ByteArray} {f : Fm} {es : List Ex} {hg : Hd} {H : Nat → Hd} {gt tc : Nat} {ws : List ByteArray} (h : FmSt w0 w F g lab L f es hg H gt tc ws) (j : Nat) (x : ByteArray) (hj : ws[j]? = some x) : w.cell? ⟨gt, j, none⟩ = some (.string x) :=
  h.tw.cell rfl j (.string x) (by simp [rowS, strs, hj])
theorem FmSt.cell {w0 w : World} {F g : Nat} {lab : ByteArray} {L : List ByteArray} {f : Fm} {es : List Ex} {hg : Hd} {H : Nat → Hd} {gt tc : Nat} {ws : List ByteArray} (h : FmSt w0 w F g lab L f es hg H gt tc ws) (i : Nat) (v : Value) (hv : (fmL lab (.slice (some ⟨g, 0, none⟩) L.length L.length) f es hg H)[i]? = some v) : w.cell? ⟨F, i, none⟩ = some v := by
  rw [h.fm.bag.cell]; exact hv
theorem FmSt.lts {w0 w : World} {F g : Nat} {lab : ByteArray} {L : List ByteArray} {f : Fm} {es : List Ex} {hg : Hd} {H : Nat → Hd} {gt tc : Nat} {ws : List ByteArray} (h : FmSt w0 w F g lab L f es hg H gt tc ws) : F < w.heap.size ∧ gt < w.heap.size ∧ g < w.heap.size := ⟨h.fm.bag.lt, h.tw.lt (k := gt) rfl, lt_of_get h.lns⟩
/-- The words behind the first two. -/
theorem FmSt.rest {w0 w : World} {F g : Nat} {lab : ByteArray} {L : List ByteArray} {f : Fm} {es : List Ex} {hg : Hd} {H : Nat → Hd} {gt tc : Nat} {ws : List ByteArray} (h : FmSt w0 w F g lab L f es hg H gt tc ws) : ExOk w F H ⟨⟨some ⟨gt, 2, none⟩, tc - 2⟩, ws.drop 2⟩ := by
  have hv := h.tw.view
  refine ⟨?_, ⟨_, rfl⟩, fun x hx => ?_⟩
  · rcases hv with hn | ⟨g', off, cur, t, e1, e2, e3, e4, e5⟩
    · left; rw [hn]; rfl
    · right
      cases e1
      refine ⟨gt, 2, cur, t, rfl, e2, ?_, ?_, ?_⟩
      · intro j x hj
        rw [List.getElem?_drop] at hj
        have := e3 (2 + j) x hj
        rw [Nat.zero_add] at this
        exact this
      · simp only [List.length_drop]
        have : ws.length ≤ tc := e4
        omega
      · have : tc ≤ 9223372036854775807 := e5
        show tc - 2 ≤ _
        omega
  · have e : x = gt := by simp [Hd.blk] at hx; exact hx.symm
    subst e
    exact ⟨h.lts.2.1, h.tf⟩
theorem build_form (w : World) (s : ByteArray) : (Instr.build 67 #[(0, .string s)]).run Tryz.prog w = .ok (.agg #[.string s, .slice none 0 0, .slice none 0 0, .slice none 0 0, .slice none 0 0, .slice none 0 0, .slice none 0 0, .slice none 0 0, .slice none 0 0, .slice none 0 0]) w :=
  run_build w 67 _ _ (by kernel_rfl)

end Go.Proofs.YtcipkfhpcbddiaaGreat
