/- Our texts: PuL, Rp5, Mp1, Keep2, Keep2b, Keep3. -/
import Derived.Test.YtcipkfhpcbddiaaGreatG10
import Derived.Test.YtcipkfhpcbddiaaGreatG12
import Derived.Test.YtcipkfhpcbddiaaGreatG15
import Derived.Test.YtcipkfhpcbddiaaGreatG18
/- The places that rows tell are places of the record. No walk. -/
namespace Go.Proofs.YtcipkfhpcbddiaaGreat
open Go.RowKit

theorem ln_no : LnOk noPl := by unfold LnOk noPl; simp
theorem ln_noFlt : LnOk noFlt.2 := by unfold LnOk noFlt; simp
theorem ln_col {p : Pl} (h : LnOk p) (c : Int) : LnOk { p with col := c } := h

theorem norm_ln (l : List St) (a : Nat) (fin : Pl) (hf : LnOk fin) (ws : List (ByteArray × Pl)) (hw : ∀ x ∈ ws, LnOk x.2) : ∀ acc, (∀ s ∈ acc, LnOk s.at_) → (∀ s ∈ (normF l a fin ws acc).1, LnOk s.at_) ∧ LnOk (normF l a fin ws acc).2.2 := by
  induction ws with
  | nil =>
    intro acc ha
    rw [normF]
    split
    · exact ⟨by simp, hf⟩
    · exact ⟨ha, ln_noFlt⟩
  | cons x r ih =>
    intro acc ha
    obtain ⟨t, p⟩ := x
    have hp := hw (t, p) (by simp)
    have hr := fun y hy => hw y (List.mem_cons_of_mem _ hy)
    have hacc : ∀ k n, ∀ s ∈ acc ++ [(⟨k, n, p⟩ : Stp)], LnOk s.at_ := by
      intro k n s hs
      rcases List.mem_append.1 hs with hs | hs
      · exact ha s hs
      · rw [List.mem_singleton.1 hs]; exact hp
    rw [normF]
    split
    · exact ih hr _ (hacc _ _)
    · split
      · exact ⟨by simp, hp⟩
      · exact ih hr _ (hacc _ _)
theorem block_ln (l : List St) (a : Nat) (fin : Pl) (hf : LnOk fin) (ws : List (ByteArray × Pl)) (hw : ∀ x ∈ ws, LnOk x.2) : ∀ i ns, LnOk (blockL l a fin i ws ns).1.2.2 := by
  induction ws with
  | nil => intro i ns; exact hf
  | cons x r ih =>
    intro i ns
    obtain ⟨t, p⟩ := x
    have hp := hw (t, p) (by simp)
    rw [blockL]
    split
    · exact ln_noFlt
    · split
      · exact hp
      · split
        · exact hp
        · exact ih (fun y hy => hw y (List.mem_cons_of_mem _ hy)) _ _
def CmpLn (c : Cmp) : Prop := ∀ s ∈ c.steps, LnOk s.at_
theorem add_ln {c : Cmp} (h : CmpLn c) (s : Stp) (hs : LnOk s.at_) : ∀ x ∈ c.steps ++ [s], LnOk x.at_ := by
  intro x hx
  rcases List.mem_append.1 hx with hx | hx
  · exact h x hx
  · rw [List.mem_singleton.1 hx]; exact hs
theorem let_ln {c : Cmp} (h : CmpLn c) (n : Nat) (p : Pl) (hp : LnOk p) : CmpLn (takeLetF c n p).2 := by
  unfold takeLetF
  split
  · unfold endNumF
    split
    · exact add_ln h _ hp
    · split
      · exact add_ln h _ hp
      · exact h
  · split
    · unfold takeDigF; split <;> exact h
    · split
      · exact h
      · split
        · exact add_ln h _ hp
        · exact h
theorem word_ln (t : ByteArray) (p : Pl) (hp : LnOk p) (f : Nat) : ∀ j c, CmpLn c → CmpLn (wordLet t p f j c).2 ∧ LnOk (wordLet t p f j c).1.2 := by
  induction f with
  | zero => intro j c h; exact ⟨h, ln_noFlt⟩
  | succ f ih =>
    intro j c h
    rw [wordLet]
    split
    · split
      · exact ih _ _ (let_ln h _ _ (ln_col hp _))
      · exact ⟨let_ln h _ _ (ln_col hp _), ln_col hp _⟩
    · exact ⟨h, ln_noFlt⟩
theorem words_ln (ws : List (ByteArray × Pl)) (hw : ∀ x ∈ ws, LnOk x.2) : ∀ c, CmpLn c → CmpLn (wordsLF ws c).2 ∧ LnOk (wordsLF ws c).1.2 := by
  induction ws with
  | nil => intro c h; exact ⟨h, ln_noFlt⟩
  | cons x r ih =>
    intro c h
    obtain ⟨t, p⟩ := x
    have h1 := word_ln t p (hw (t, p) (by simp)) (t.size + 1) 0 c h
    rw [wordsLF]
    split
    · exact ih (fun y hy => hw y (List.mem_cons_of_mem _ hy)) _ h1.1
    · exact h1
theorem prf_ln (l : List St) (a : Nat) (s : St) (hf : LnOk s.fin) (hw : ∀ x ∈ s.proof, LnOk x.2) : (∀ x ∈ (prfF l a s).1, LnOk x.at_) ∧ LnOk (prfF l a s).2.2 := by
  unfold prfF
  split
  · unfold compF
    have hR : CmpLn (compR l a s).2 ∧ LnOk (compR l a s).1.2 := by
      unfold compR onw
      split
      · exact words_ln _ (fun y hy => hw y (List.mem_of_mem_drop hy)) _ (by intro x hx; cases hx)
      · exact ⟨(by intro x hx; cases hx), block_ln l a s.fin hf _ (fun y hy => hw y (List.mem_of_mem_drop hy)) _ _⟩
    unfold compE
    split
    · split
      · split
        · exact ⟨by simp, hf⟩
        · exact ⟨hR.1, ln_noFlt⟩
      · exact ⟨by simp, hf⟩
    · exact ⟨by simp, hR.2⟩
  · exact norm_ln l a s.fin hf s.proof hw [] (by simp)
theorem play_ln (l : List St) (vs : List ByteArray) (ms : List Bool) (fin : Pl) (hf : LnOk fin) (goal : List ByteArray) (steps : List Stp) (h : ∀ x ∈ steps, LnOk x.at_) : ∀ S, LnOk (playAll l vs ms fin goal steps S).2 := by
  induction steps with
  | nil =>
    intro S
    rw [playAll]
    unfold leftF
    split
    · exact hf
    · split
      · exact ln_noFlt
      · exact hf
    · exact hf
  | cons s r ih =>
    intro S
    rw [playAll]
    split
    · exact ih (fun y hy => h y (List.mem_cons_of_mem _ hy)) _
    · exact h s (by simp)
theorem judge_ln (l : List St) (n : Nat) (s : St) (L : List Rw) (hf : LnOk s.fin) (hw : ∀ x ∈ s.proof, LnOk x.2) : LnOk (judgeF l n s L).at_ := by
  have hp := prf_ln l n s hf hw
  unfold judgeF
  have hfl : LnOk (if (unkF (prfF l n s).1).isNone = true ∧ ((prfF l n s).2.1 == 0) = true then playAllF l n s (prfF l n s).1 else (prfF l n s).2).2 := by
    split
    · exact play_ln _ _ _ _ hf _ _ hp.1 _
    · exact hp.2
  generalize (if (unkF (prfF l n s).1).isNone = true ∧ ((prfF l n s).2.1 == 0) = true then playAllF l n s (prfF l n s).1 else (prfF l n s).2) = f at *
  unfold judgeR
  split
  · split
    · next u hu =>
      show LnOk (((prfF l n s).1[u]?).map Stp.at_ |>.getD noPl)
      cases e : (prfF l n s).1[u]? with
      | none => exact ln_no
      | some x => exact hp.1 x (List.mem_of_getElem? e)
    · split <;> exact ln_no
  · exact hfl
theorem up_ln (l : List St) (h : LnsOk l) (k : Nat) : ∀ r ∈ rowsUp l k, LnOk r.at_ := by
  induction k with
  | zero => intro r hr; cases hr
  | succ k ih =>
    intro r hr
    rw [rowsUp] at hr
    rcases List.mem_append.1 hr with hr | hr
    · exact ih r hr
    · rw [List.mem_singleton.1 hr]
      unfold oneRow
      split
      · next s hs =>
        have hm := h s (List.mem_of_getElem? hs)
        split
        · exact ln_no
        · split
          · exact judge_ln l k s _ hm.1 hm.2
          · exact ln_no
      · exact ln_no
theorem Good.rows {l : List St} (h : Good l) : RwsOk (rowsF l) := by
  refine ⟨?_, fun r hr => up_ln l h.lns _ r (List.mem_filter.1 hr).1⟩
  have h1 := List.length_filter_le (fun r : Rw => !(r.verdict == 0)) (rowsUp l l.length)
  rw [rowsUp_len] at h1
  have := h.ok.len
  unfold rowsF
  omega

/-- The rows of a text. -/
def rowsM (T : ByteArray) : List Rw := rowsF (rdM T).2.sts
theorem rows_more (T c : ByteArray) (hT : Fine T) : ∃ m, rowsM (T ++ ⟨#[10]⟩ ++ c) = rowsM T ++ m := by
  obtain ⟨m, hm⟩ := more_sts T c hT
  have g := rdM_rec T hT.size hT.inc
  unfold rowsM
  rw [hm]
  exact rows_fore _ m g.ok g.prf

end Go.Proofs.YtcipkfhpcbddiaaGreat

/- Package report: On. -/
namespace Go.Proofs.YtcipkfhpcbddiaaGreat
open Go.RowKit

theorem made_rows (n : Nat) : madeCells (Value.agg #[.string ⟨#[]⟩, .int .i64 0, .int .i64 0, .string ⟨#[]⟩, .int .i64 0, .int .i64 0]).cells (n * 6) = (rwsV (List.replicate n zRw)).toArray := by
  have hc : (Value.agg #[.string ⟨#[]⟩, .int .i64 0, .int .i64 0, .string ⟨#[]⟩, .int .i64 0, .int .i64 0]).cells = (rwV zRw).toArray := by rfl
  rw [hc]
  apply Array.ext
  · rw [size_madeCells]; simp [rwsV_len]
  · intro i h1 h2
    rw [size_madeCells] at h1
    have hk : i / 6 < (List.replicate n zRw).length := by simp; omega
    have e := rwsV_at (List.replicate n zRw) (i / 6) hk (i % 6) (by omega)
    have ei : i / 6 * 6 + i % 6 = i := by omega
    have e2 : (List.replicate n zRw)[i / 6] = zRw := by simp
    rw [ei, e2] at e
    have h3 : i < (rwsV (List.replicate n zRw)).length := by simpa using h2
    have e3 : (rwsV (List.replicate n zRw)).toArray[i] = (rwsV (List.replicate n zRw))[i] := by simp
    rw [e3]
    have e4 : some (rwsV (List.replicate n zRw))[i] = (rwV zRw)[i % 6]? := by rw [← e, List.getElem?_eq_getElem h3]
    have l : some (madeCells (rwV zRw).toArray (n * 6))[i] = (rwV zRw)[i % 6]? := by
      have hj : i % 6 = 0 ∨ i % 6 = 1 ∨ i % 6 = 2 ∨ i % 6 = 3 ∨ i % 6 = 4 ∨ i % 6 = 5 := by omega
      have hs : (rwV zRw).toArray.size = 6 := rfl
      simp only [madeCells, Array.getElem_map, Array.getElem_range, hs]
      rcases hj with h | h | h | h | h | h <;> rw [h] <;> rfl
    exact Option.some.inj (l.trans e4.symm)
theorem pad_zero (l : List St) : padL l 0 = List.replicate l.length zRw := by simp [padL, rowsUp]

theorem build_rep (w : World) (a1 a2 a3 : Option Addr) (n1 c1 n2 c2 n3 c3 : Nat) : (Instr.build 84 #[(0, .agg #[.slice a1 n1 c1, .slice a2 n2 c2]), (1, .slice a3 n3 c3)]).run Tryz.prog w = .ok (.agg #[.slice a1 n1 c1, .slice a2 n2 c2, .slice a3 n3 c3]) w :=
  run_build w 84 _ _ (by kernel_rfl)
attribute [local go_sem] build_rep build_norep build_nofault

theorem sevenA_kept {w w2 : World} {A B : Nat} (h : Kept [] w w2) (hA : w.heap.size ≤ A) (hB : w.heap.size ≤ B) (u0 u1 u2 v0 v1 v2 v3 : Value) :
    Kept [] w (((((((w2.setCell ⟨A, 0, none⟩ u0).setCell ⟨A, 1, none⟩ u1).setCell ⟨A, 2, none⟩ u2).setCell ⟨B, 0, none⟩ v0).setCell ⟨B, 1, none⟩ v1).setCell ⟨B, 2, none⟩ v2).setCell ⟨B, 3, none⟩ v3) :=
  ((((((h.setCell (Or.inr hA) _).setCell (Or.inr hA) _).setCell (Or.inr hA) _).setCell (Or.inr hB) _).setCell (Or.inr hB) _).setCell (Or.inr hB) _).setCell (Or.inr hB) _

theorem sevenA_keptS (w2 : World) (A B : Nat) (u0 u1 u2 v0 v1 v2 v3 : Value) :
    Kept [A, B] w2 (((((((w2.setCell ⟨A, 0, none⟩ u0).setCell ⟨A, 1, none⟩ u1).setCell ⟨A, 2, none⟩ u2).setCell ⟨B, 0, none⟩ v0).setCell ⟨B, 1, none⟩ v1).setCell ⟨B, 2, none⟩ v2).setCell ⟨B, 3, none⟩ v3) :=
  (((((((Kept.refl [A, B] w2).setCell (Or.inl (by simp)) _).setCell (Or.inl (by simp)) _).setCell (Or.inl (by simp)) _).setCell (Or.inl (by simp)) _).setCell (Or.inl (by simp)) _).setCell (Or.inl (by simp)) _).setCell (Or.inl (by simp)) _

/-- What On leaves of a record. -/
def OnSays (fs : List (ByteArray × ByteArray)) (k0 : Nat) (w : World) (e : Ending) (w' : World) : Prop :=
  (if ((readAll fs k0).1.1 == 0) = true then ∃ (H : Nat → Hd) (g : Nat) (a7 : Option Addr) (n7 c7 : Nat),
      e = .returned (.tuple #[.agg #[.slice (H 6).ao (readAll fs k0).2.2.sts.length (H 6).cap, .slice a7 n7 c7, .slice (some ⟨g, 0, none⟩) (readAll fs k0).2.2.sts.length (readAll fs k0).2.2.sts.length], fltV noFlt]) ∧
      StsIs w' (readAll fs k0).2.2.sts H ∧ w'.heap[g]? = some (.cells (rwsV (rowsUp (readAll fs k0).2.2.sts (readAll fs k0).2.2.sts.length)).toArray 59 (0, 0)) ∧ (∀ k, InH H k → w.heap.size ≤ k) ∧ w.heap.size ≤ g
   else e = .returned (.tuple #[.agg #[.slice none 0 0, .slice none 0 0, .slice none 0 0], fltV (readAll fs k0).1])) ∧ Kept [] w w'

set_option maxHeartbeats 3000000 in
set_option maxRecDepth 100000 in
theorem on_any (v tt k0 : Nat) (fs : List (ByteArray × ByteArray)) (more : List Value) (w : World)
    (ht : TabAt w v tt fs more) (hk0 : k0 < fs.length) (hsz : ∀ j, j < fs.length → (fileDt fs j).size ≤ 1024) :
    Calls Tryz.prog 35 #[.pointer (some ⟨v, 0, none⟩), .int .i64 k0] w fun e w' => OnSays fs k0 w e w' := by
  have hvw := ht.lt
  obtain ⟨i0, hi, hz0, hz1, hz2⟩ := info_parts infoR
  have HG := (show Hid _ from read_rec fs hsz k0)
  obtain ⟨W, hW⟩ : ∃ W, W = (w.alloc (.cells #[.slice none 0 0, .slice none 0 0, .slice none 0 0] 84)).alloc (.cells #[.int .i64 0, .string ⟨#[]⟩, .int .i64 0, .int .i64 0] 41) := ⟨_, rfl⟩
  have hK : Kept [] w W := by rw [hW]; exact ((Kept.refl [] _).alloc _).alloc _
  have hA : W.heap[w.heap.size]? = some (.cells #[.slice none 0 0, .slice none 0 0, .slice none 0 0] 84 (0, 0)) := by
    rw [hW]; exact ((Kept.refl [] _).alloc _).get (heap_alloc_new _ _) (by simp)
  have hF : W.heap[w.heap.size + 1]? = some (.cells zeroFault 41 (0, 0)) := by
    rw [hW]
    have e : (w.alloc (.cells #[.slice none 0 0, .slice none 0 0, .slice none 0 0] 84)).heap.size = w.heap.size + 1 := by simp
    rw [← e]; exact heap_alloc_new _ _
  have HW := (show Hid _ from hW.symm)
  have RD := read_any v tt k0 fs more W (ht.kept hK (by simp)) hk0 hsz
  have HRD := (show Hid _ from RD)
  clear RD hW
  unfold OnSays
  generalize readAll fs k0 = R at *
  obtain ⟨⟨r, pf, pl, pc⟩, bg', d'⟩ := R
  simp only [fltV, noFlt] at HRD HG ⊢
  generalize d'.sts = l at *
  generalize d'.rbl = rb at *
  go_enter Tryz.func35, Tryz.ntmps35
  go_wp2_with fail
  rw [HW.out]
  refine Calls.mono HRD.out ?_
  rintro e w2 ⟨hcase, hk2⟩
  have hA2 := hk2.get hA (by simp)
  have hF2 := hk2.get hF (by simp)
  have hz := hk2.size
  have hWz := lt_of_get hF
  cases hr : (r == 0)
  · have hr' : (r != 0) = true := by simp [bne, hr]
    simp only [hr, Bool.false_eq_true, if_false] at hcase ⊢
    subst hcase
    have a0 : w2.cell? ⟨w.heap.size, 0, none⟩ = some (.slice none 0 0) := by rw [cell_of hA2]; rfl
    have a1 : w2.cell? ⟨w.heap.size, 1, none⟩ = some (.slice none 0 0) := by rw [cell_of hA2]; rfl
    have a2 : w2.cell? ⟨w.heap.size, 2, none⟩ = some (.slice none 0 0) := by rw [cell_of hA2]; rfl
    obtain ⟨z0, z1, z2, z3⟩ := zero_cells hF2
    have ya := free_of hA2
    have yf := free_of hF2
    have hA2w := lt_of_get hA2
    have hF2w := lt_of_get hF2
    go_wp2_with fail
    go_region
    all_goals go_wp2
    all_goals exact bodyPost_ret (v := .tuple #[.agg #[.slice none 0 0, .slice none 0 0, .slice none 0 0], .agg #[.int .i64 r, .string pf, .int .i64 pl, .int .i64 pc]]) (by simp [results, Tryz.results35, go_sem, a0, a1, a2, z0, z1, z2, z3, hA2w, hF2w]) rfl ⟨rfl, (((sevenA_kept (hK.trans hk2) (Nat.le_refl _) (Nat.le_succ _) _ _ _ _ _ _ _).alloc _).alloc _).drew⟩
  · have hr' : (r != 0) = false := by simp [bne, hr]
    simp only [hr, if_true] at hcase ⊢
    obtain ⟨H0, rfl, hS0, hN0⟩ := hcase
    obtain ⟨hS, hT⟩ := hS0.trim
    have hE6 : H0 6 = trimH l H0 6 := (trimH_eq l H0 6 (Or.inl rfl)).symm
    rw [hE6]
    have hN : ∀ k, InH (trimH l H0) k → k < w2.heap.size ∧ w.heap.size + 2 ≤ k := fun k hk => ⟨(hT k hk).1, by have := hN0 k (hT k hk).2; omega⟩
    clear hS0 hN0 hT hE6
    generalize trimH l H0 = H at *
    generalize (H0 7).ao = a7 at *
    generalize (H0 7).cap = c7 at *
    generalize rb.length = n7 at *
    clear H0
    have HN := (show Hid _ from hN)
    have hlen := HG.out.ok.len
    obtain ⟨W3, hW3⟩ : ∃ W3, W3 = (w2.alloc (.cells #[.slice (H 6).ao l.length (H 6).cap, .slice a7 n7 c7] 82)).alloc (.cells #[.int .i64 0, .string ⟨#[]⟩, .int .i64 0, .int .i64 0] 41) := ⟨_, rfl⟩
    have k3 : Kept [] w2 W3 := by rw [hW3]; exact ((Kept.refl [] _).alloc _).alloc _
    have B3 : W3.heap[w2.heap.size]? = some (.cells #[.slice (H 6).ao l.length (H 6).cap, .slice a7 n7 c7] 82 (0, 0)) := by
      rw [hW3]; exact ((Kept.refl [] _).alloc _).get (heap_alloc_new _ _) (by simp)
    have hs3 : W3.heap.size = w2.heap.size + 2 := by rw [hW3]; simp
    have hS3 := hS.still k3
    have R3 : RecAt W3 w2.heap.size 0 l H := ⟨⟨_, _, B3, rfl⟩, hS3⟩
    have r0 : W3.cell? ⟨w2.heap.size, 0, none⟩ = some (.slice (H 6).ao l.length (H 6).cap) := by rw [cell_of B3]; rfl
    have r1 : W3.cell? ⟨w2.heap.size, 1, none⟩ = some (.slice a7 n7 c7) := by rw [cell_of B3]; rfl
    have HCA : Hid (∀ w', Kept [] W3 w' → Calls Tryz.prog 45 #[.pointer (some ⟨w2.heap.size, 0, none⟩)] w' fun e w'' => e = .returned (.int .i64 l.length) ∧ w'' = w') := fun w' q => count_any w2.heap.size 0 l H w' (R3.still q)
    have HRR : Hid (∀ w', Kept [] W3 w' → w'.cell? ⟨w2.heap.size, 0, none⟩ = some (.slice (H 6).ao l.length (H 6).cap) ∧ w'.cell? ⟨w2.heap.size, 1, none⟩ = some (.slice a7 n7 c7)) := fun w' q => by
      have q2 := q.get B3 (by simp)
      exact ⟨by rw [cell_of q2]; rfl, by rw [cell_of q2]; rfl⟩
    have m1 := fun w => run_make_row (P := Tryz.prog) w 44 59 i0 _ Tryz.underlying44 hi hz0 l.length 6 hz1 (by rw [hz2]; omega) (by omega)
    obtain ⟨mc, hmc⟩ : ∃ mc, mc = madeCells (Value.agg #[.string ⟨#[]⟩, .int .i64 0, .int .i64 0, .string ⟨#[]⟩, .int .i64 0, .int .i64 0]).cells (l.length * 6) := ⟨_, rfl⟩
    have HMC : Hid (mc = (rwsV (padL l 0)).toArray) := by show _ = _; rw [hmc, made_rows, pad_zero]
    rw [← hmc] at m1
    clear hmc hN hS
    have HW3 := (show Hid _ from hW3.symm)
    clear hW3
    go_upto_region 4 with fail
    rw [HW3.out]
    go_region_held3 (fun w' => w'.cell? ⟨w2.heap.size, 0, none⟩ = some (.slice (H 6).ao l.length (H 6).cap) ∧ w'.cell? ⟨w2.heap.size, 1, none⟩ = some (.slice a7 n7 c7)) (go_keep) (first | (go_at_call 45; refine (HCA.out _ (by first | exact (Kept.refl [] W3).drew | exact ((Kept.refl [] W3).alloc _).drew | exact (Kept.refl [] W3).drew.alloc _)).mono ?_; rintro e wc ⟨rfl, hwc⟩; rw [hwc]))
    · obtain ⟨W4, hW4⟩ : ∃ W4, W4 = ((W3.alloc (.cells mc 59)).alloc (.cells #[.slice (H 6).ao l.length (H 6).cap, .slice a7 n7 c7, .slice (some ⟨w2.heap.size + 2, 0, none⟩) l.length l.length] 84)).drew := ⟨_, rfl⟩
      have k4 : Kept [] W3 W4 := by rw [hW4]; exact (((Kept.refl [] _).alloc _).alloc _).drew
      have B4 : W4.heap[w2.heap.size + 2 + 1]? = some (.cells #[.slice (H 6).ao l.length (H 6).cap, .slice a7 n7 c7, .slice (some ⟨w2.heap.size + 2, 0, none⟩) l.length l.length] 84 (0, 0)) := by
        rw [hW4]
        have e1 : (W3.alloc (.cells mc 59)).heap.size = w2.heap.size + 2 + 1 := by simp [hs3]
        have e := heap_alloc_new (W3.alloc (.cells mc 59)) (.cells #[.slice (H 6).ao l.length (H 6).cap, .slice a7 n7 c7, .slice (some ⟨w2.heap.size + 2, 0, none⟩) l.length l.length] 84)
        rw [e1] at e; exact (Kept.refl [] _).drew.get e (by simp)
      have G4 : W4.heap[w2.heap.size + 2]? = some (.cells (rwsV (padL l 0)).toArray 59 (0, 0)) := by
        rw [hW4, ← HMC.out]
        have e := ((Kept.refl [] (W3.alloc (.cells mc 59))).alloc (.cells #[.slice (H 6).ao l.length (H 6).cap, .slice a7 n7 c7, .slice (some ⟨w2.heap.size + 2, 0, none⟩) l.length l.length] 84)).drew.get (heap_alloc_new _ _) (by simp)
        rw [hs3] at e; exact e
      rw [← hW4]
      clear hW4
      have RP : RepAt W4 (w2.heap.size + 2 + 1) 0 l H (w2.heap.size + 2) (padL l 0) := ⟨⟨⟨_, _, B4, rfl⟩, hS3.still k4⟩, ⟨_, _, B4, by rw [padL_len l 0 (Nat.zero_le _)]; rfl⟩, G4⟩
      have HJ := (show Hid _ from judgeAll_any (w2.heap.size + 2 + 1) 0 (w2.heap.size + 2) l H W4 RP HG.out.ok HG.out.prf (by omega) (fun x hx => by have := HN.out x hx; omega))
      have kA := (hk2.trans k3).trans k4
      have A4 := kA.get hA (by simp)
      have F4 := kA.get hF (by simp)
      clear RP hwc
      go_wp2_with fail
      refine Calls.mono HJ.out ?_
      rintro e w5 ⟨rfl, R5, k5⟩
      have B5 := k5.get B4 (by simp)
      have A5 := k5.get A4 (by simp; omega)
      have F5 := k5.get F4 (by simp; omega)
      have b0 : w5.cell? ⟨w2.heap.size + 2 + 1, 0, none⟩ = some (.slice (H 6).ao l.length (H 6).cap) := by rw [cell_of B5]; rfl
      have b1 : w5.cell? ⟨w2.heap.size + 2 + 1, 1, none⟩ = some (.slice a7 n7 c7) := by rw [cell_of B5]; rfl
      have b2 : w5.cell? ⟨w2.heap.size + 2 + 1, 2, none⟩ = some (.slice (some ⟨w2.heap.size + 2, 0, none⟩) l.length l.length) := by rw [cell_of B5]; rfl
      have a0 : w5.cell? ⟨w.heap.size, 0, none⟩ = some (.slice none 0 0) := by rw [cell_of A5]; rfl
      have a1 : w5.cell? ⟨w.heap.size, 1, none⟩ = some (.slice none 0 0) := by rw [cell_of A5]; rfl
      have a2 : w5.cell? ⟨w.heap.size, 2, none⟩ = some (.slice none 0 0) := by rw [cell_of A5]; rfl
      obtain ⟨z0, z1, z2, z3⟩ := zero_cells F5
      have ya := free_of A5
      have yf := free_of F5
      have hA2w := lt_of_get A5
      have hF2w := lt_of_get F5
      have KW : Kept [] w w5 := by
        have q := (hK.trans kA)
        exact ⟨k5.os.trans q.os, k5.tape.trans q.tape, k5.output.trans q.output, Nat.le_trans q.size k5.size, fun k hk _ => (k5.block k (Nat.lt_of_lt_of_le hk q.size) (by simp; omega)).trans (q.block k hk (by simp))⟩
      have KS := sevenA_keptS w5 w.heap.size (w.heap.size + 1)
      have HS5 : Hid (StsIs w5 l H) := R5.recd.sts
      have HG5 := (show Hid _ from R5.arr)
      have HKS := (show Hid _ from KS)
      clear R5 KS B5 A5 F5 B4 A4 F4 G4
      go_wp2
      exact bodyPost_ret (v := .tuple #[.agg #[.slice (H 6).ao l.length (H 6).cap, .slice a7 n7 c7, .slice (some ⟨w2.heap.size + 2, 0, none⟩) l.length l.length], .agg #[.int .i64 0, .string ⟨#[]⟩, .int .i64 0, .int .i64 0]]) (by simp [results, Tryz.results35, go_sem, a0, a1, a2, z0, z1, z2, z3]) rfl
        ⟨⟨H, w2.heap.size + 2, ⟨a7, n7, c7, rfl⟩, HS5.out.kept (HKS.out _ _ _ _ _ _ _) (fun k hk => by have := HN.out k hk; simp; omega), (HKS.out _ _ _ _ _ _ _).get HG5.out (by simp; omega), fun k hk => by have := HN.out k hk; omega, by omega⟩, sevenA_kept KW (Nat.le_refl _) (Nat.le_succ _) _ _ _ _ _ _ _⟩
    · obtain ⟨W4, hW4⟩ : ∃ W4, W4 = ((W3.alloc (.cells #[.slice (H 6).ao l.length (H 6).cap, .slice a7 n7 c7, .slice (some ⟨w2.heap.size + 2 + 1, 0, none⟩) l.length l.length] 84)).alloc (.cells mc 59)).drew := ⟨_, rfl⟩
      have k4 : Kept [] W3 W4 := by rw [hW4]; exact (((Kept.refl [] _).alloc _).alloc _).drew
      have B4 : W4.heap[w2.heap.size + 2]? = some (.cells #[.slice (H 6).ao l.length (H 6).cap, .slice a7 n7 c7, .slice (some ⟨w2.heap.size + 2 + 1, 0, none⟩) l.length l.length] 84 (0, 0)) := by
        rw [hW4]
        have e := ((Kept.refl [] (W3.alloc (.cells #[.slice (H 6).ao l.length (H 6).cap, .slice a7 n7 c7, .slice (some ⟨w2.heap.size + 2 + 1, 0, none⟩) l.length l.length] 84))).alloc (.cells mc 59)).drew.get (heap_alloc_new _ _) (by simp)
        rw [hs3] at e; exact e
      have G4 : W4.heap[w2.heap.size + 2 + 1]? = some (.cells (rwsV (padL l 0)).toArray 59 (0, 0)) := by
        rw [hW4, ← HMC.out]
        have e1 : (W3.alloc (.cells #[.slice (H 6).ao l.length (H 6).cap, .slice a7 n7 c7, .slice (some ⟨w2.heap.size + 2 + 1, 0, none⟩) l.length l.length] 84)).heap.size = w2.heap.size + 2 + 1 := by simp [hs3]
        have e := heap_alloc_new (W3.alloc (.cells #[.slice (H 6).ao l.length (H 6).cap, .slice a7 n7 c7, .slice (some ⟨w2.heap.size + 2 + 1, 0, none⟩) l.length l.length] 84)) (.cells mc 59)
        rw [e1] at e; exact (Kept.refl [] _).drew.get e (by simp)
      rw [← hW4]
      clear hW4
      have RP : RepAt W4 (w2.heap.size + 2) 0 l H (w2.heap.size + 2 + 1) (padL l 0) := ⟨⟨⟨_, _, B4, rfl⟩, hS3.still k4⟩, ⟨_, _, B4, by rw [padL_len l 0 (Nat.zero_le _)]; rfl⟩, G4⟩
      have HJ := (show Hid _ from judgeAll_any (w2.heap.size + 2) 0 (w2.heap.size + 2 + 1) l H W4 RP HG.out.ok HG.out.prf (by omega) (fun x hx => by have := HN.out x hx; omega))
      have kA := (hk2.trans k3).trans k4
      have A4 := kA.get hA (by simp)
      have F4 := kA.get hF (by simp)
      clear RP hwc
      go_wp2_with fail
      refine Calls.mono HJ.out ?_
      rintro e w5 ⟨rfl, R5, k5⟩
      have B5 := k5.get B4 (by simp)
      have A5 := k5.get A4 (by simp; omega)
      have F5 := k5.get F4 (by simp; omega)
      have b0 : w5.cell? ⟨w2.heap.size + 2, 0, none⟩ = some (.slice (H 6).ao l.length (H 6).cap) := by rw [cell_of B5]; rfl
      have b1 : w5.cell? ⟨w2.heap.size + 2, 1, none⟩ = some (.slice a7 n7 c7) := by rw [cell_of B5]; rfl
      have b2 : w5.cell? ⟨w2.heap.size + 2, 2, none⟩ = some (.slice (some ⟨w2.heap.size + 2 + 1, 0, none⟩) l.length l.length) := by rw [cell_of B5]; rfl
      have a0 : w5.cell? ⟨w.heap.size, 0, none⟩ = some (.slice none 0 0) := by rw [cell_of A5]; rfl
      have a1 : w5.cell? ⟨w.heap.size, 1, none⟩ = some (.slice none 0 0) := by rw [cell_of A5]; rfl
      have a2 : w5.cell? ⟨w.heap.size, 2, none⟩ = some (.slice none 0 0) := by rw [cell_of A5]; rfl
      obtain ⟨z0, z1, z2, z3⟩ := zero_cells F5
      have ya := free_of A5
      have yf := free_of F5
      have hA2w := lt_of_get A5
      have hF2w := lt_of_get F5
      have KW : Kept [] w w5 := by
        have q := (hK.trans kA)
        exact ⟨k5.os.trans q.os, k5.tape.trans q.tape, k5.output.trans q.output, Nat.le_trans q.size k5.size, fun k hk _ => (k5.block k (Nat.lt_of_lt_of_le hk q.size) (by simp; omega)).trans (q.block k hk (by simp))⟩
      have KS := sevenA_keptS w5 w.heap.size (w.heap.size + 1)
      have HS5 : Hid (StsIs w5 l H) := R5.recd.sts
      have HG5 := (show Hid _ from R5.arr)
      have HKS := (show Hid _ from KS)
      clear R5 KS B5 A5 F5 B4 A4 F4 G4
      go_wp2
      exact bodyPost_ret (v := .tuple #[.agg #[.slice (H 6).ao l.length (H 6).cap, .slice a7 n7 c7, .slice (some ⟨w2.heap.size + 2 + 1, 0, none⟩) l.length l.length], .agg #[.int .i64 0, .string ⟨#[]⟩, .int .i64 0, .int .i64 0]]) (by simp [results, Tryz.results35, go_sem, a0, a1, a2, z0, z1, z2, z3]) rfl
        ⟨⟨H, w2.heap.size + 2 + 1, ⟨a7, n7, c7, rfl⟩, HS5.out.kept (HKS.out _ _ _ _ _ _ _) (fun k hk => by have := HN.out k hk; simp; omega), (HKS.out _ _ _ _ _ _ _).get HG5.out (by simp; omega), fun k hk => by have := HN.out k hk; omega, by omega⟩, sevenA_kept KW (Nat.le_refl _) (Nat.le_succ _) _ _ _ _ _ _ _⟩
    · obtain ⟨W4, hW4⟩ : ∃ W4, W4 = ((W3.alloc (.cells #[.slice (H 6).ao l.length (H 6).cap, .slice a7 n7 c7, .slice (some ⟨w2.heap.size + 2 + 1, 0, none⟩) l.length l.length] 84)).alloc (.cells mc 59)).drew := ⟨_, rfl⟩
      have k4 : Kept [] W3 W4 := by rw [hW4]; exact (((Kept.refl [] _).alloc _).alloc _).drew
      have B4 : W4.heap[w2.heap.size + 2]? = some (.cells #[.slice (H 6).ao l.length (H 6).cap, .slice a7 n7 c7, .slice (some ⟨w2.heap.size + 2 + 1, 0, none⟩) l.length l.length] 84 (0, 0)) := by
        rw [hW4]
        have e := ((Kept.refl [] (W3.alloc (.cells #[.slice (H 6).ao l.length (H 6).cap, .slice a7 n7 c7, .slice (some ⟨w2.heap.size + 2 + 1, 0, none⟩) l.length l.length] 84))).alloc (.cells mc 59)).drew.get (heap_alloc_new _ _) (by simp)
        rw [hs3] at e; exact e
      have G4 : W4.heap[w2.heap.size + 2 + 1]? = some (.cells (rwsV (padL l 0)).toArray 59 (0, 0)) := by
        rw [hW4, ← HMC.out]
        have e1 : (W3.alloc (.cells #[.slice (H 6).ao l.length (H 6).cap, .slice a7 n7 c7, .slice (some ⟨w2.heap.size + 2 + 1, 0, none⟩) l.length l.length] 84)).heap.size = w2.heap.size + 2 + 1 := by simp [hs3]
        have e := heap_alloc_new (W3.alloc (.cells #[.slice (H 6).ao l.length (H 6).cap, .slice a7 n7 c7, .slice (some ⟨w2.heap.size + 2 + 1, 0, none⟩) l.length l.length] 84)) (.cells mc 59)
        rw [e1] at e; exact (Kept.refl [] _).drew.get e (by simp)
      rw [← hW4]
      clear hW4
      have RP : RepAt W4 (w2.heap.size + 2) 0 l H (w2.heap.size + 2 + 1) (padL l 0) := ⟨⟨⟨_, _, B4, rfl⟩, hS3.still k4⟩, ⟨_, _, B4, by rw [padL_len l 0 (Nat.zero_le _)]; rfl⟩, G4⟩
      have HJ := (show Hid _ from judgeAll_any (w2.heap.size + 2) 0 (w2.heap.size + 2 + 1) l H W4 RP HG.out.ok HG.out.prf (by omega) (fun x hx => by have := HN.out x hx; omega))
      have kA := (hk2.trans k3).trans k4
      have A4 := kA.get hA (by simp)
      have F4 := kA.get hF (by simp)
      clear RP hwc
      go_wp2_with fail
      refine Calls.mono HJ.out ?_
      rintro e w5 ⟨rfl, R5, k5⟩
      have B5 := k5.get B4 (by simp)
      have A5 := k5.get A4 (by simp; omega)
      have F5 := k5.get F4 (by simp; omega)
      have b0 : w5.cell? ⟨w2.heap.size + 2, 0, none⟩ = some (.slice (H 6).ao l.length (H 6).cap) := by rw [cell_of B5]; rfl
      have b1 : w5.cell? ⟨w2.heap.size + 2, 1, none⟩ = some (.slice a7 n7 c7) := by rw [cell_of B5]; rfl
      have b2 : w5.cell? ⟨w2.heap.size + 2, 2, none⟩ = some (.slice (some ⟨w2.heap.size + 2 + 1, 0, none⟩) l.length l.length) := by rw [cell_of B5]; rfl
      have a0 : w5.cell? ⟨w.heap.size, 0, none⟩ = some (.slice none 0 0) := by rw [cell_of A5]; rfl
      have a1 : w5.cell? ⟨w.heap.size, 1, none⟩ = some (.slice none 0 0) := by rw [cell_of A5]; rfl
      have a2 : w5.cell? ⟨w.heap.size, 2, none⟩ = some (.slice none 0 0) := by rw [cell_of A5]; rfl
      obtain ⟨z0, z1, z2, z3⟩ := zero_cells F5
      have ya := free_of A5
      have yf := free_of F5
      have hA2w := lt_of_get A5
      have hF2w := lt_of_get F5
      have KW : Kept [] w w5 := by
        have q := (hK.trans kA)
        exact ⟨k5.os.trans q.os, k5.tape.trans q.tape, k5.output.trans q.output, Nat.le_trans q.size k5.size, fun k hk _ => (k5.block k (Nat.lt_of_lt_of_le hk q.size) (by simp; omega)).trans (q.block k hk (by simp))⟩
      have KS := sevenA_keptS w5 w.heap.size (w.heap.size + 1)
      have HS5 : Hid (StsIs w5 l H) := R5.recd.sts
      have HG5 := (show Hid _ from R5.arr)
      have HKS := (show Hid _ from KS)
      clear R5 KS B5 A5 F5 B4 A4 F4 G4
      go_wp2
      exact bodyPost_ret (v := .tuple #[.agg #[.slice (H 6).ao l.length (H 6).cap, .slice a7 n7 c7, .slice (some ⟨w2.heap.size + 2 + 1, 0, none⟩) l.length l.length], .agg #[.int .i64 0, .string ⟨#[]⟩, .int .i64 0, .int .i64 0]]) (by simp [results, Tryz.results35, go_sem, a0, a1, a2, z0, z1, z2, z3]) rfl
        ⟨⟨H, w2.heap.size + 2 + 1, ⟨a7, n7, c7, rfl⟩, HS5.out.kept (HKS.out _ _ _ _ _ _ _) (fun k hk => by have := HN.out k hk; simp; omega), (HKS.out _ _ _ _ _ _ _).get HG5.out (by simp; omega), fun k hk => by have := HN.out k hk; omega, by omega⟩, sevenA_kept KW (Nat.le_refl _) (Nat.le_succ _) _ _ _ _ _ _ _⟩

end Go.Proofs.YtcipkfhpcbddiaaGreat

/- The verifier: Verify, Rows. -/
namespace Go.Proofs.YtcipkfhpcbddiaaGreat
open Go.RowKit
attribute [local go_sem] build_norep build_nofault

/-- A verifier with the report on a record. -/
structure RptAt (w : World) (x : Nat) (fs : List (ByteArray × ByteArray)) (l : List St) (H : Nat → Hd) (g : Nat) : Prop where
  ver : ∃ (a7 : Option Addr) (n7 c7 : Nat), VerAt w x fs true (.slice (H 6).ao l.length (H 6).cap) (.slice a7 n7 c7) (.slice (some ⟨g, 0, none⟩) l.length l.length)
  sts : StsIs w l H
  arr : w.heap[g]? = some (.cells (rwsV (rowsUp l l.length)).toArray 59 (0, 0))
  far : x ≠ g ∧ ∀ k, InH H k → k ≠ x
theorem RptAt.anyR {w : World} {x : Nat} {fs : List (ByteArray × ByteArray)} {l : List St} {H : Nat → Hd} {g : Nat} (h : RptAt w x fs l H g) : SomeAt w x fs := by
  obtain ⟨a7, n7, c7, h⟩ := h.ver; exact h.anyR
theorem RptAt.still {w w' : World} {x : Nat} {fs : List (ByteArray × ByteArray)} {l : List St} {H : Nat → Hd} {g : Nat} (h : RptAt w x fs l H g) (k : Kept [] w w') : RptAt w' x fs l H g := by
  obtain ⟨a7, n7, c7, hv⟩ := h.ver
  exact ⟨⟨a7, n7, c7, TabAt.kept hv k (by simp)⟩, h.sts.still k, k.get h.arr (by simp), h.far⟩
theorem RptAt.tell {w : World} {x : Nat} {fs : List (ByteArray × ByteArray)} {l : List St} {H : Nat → Hd} {g : Nat} (h : RptAt w x fs l H g) : TellAt w x 10 g (rowsUp l l.length) := by
  obtain ⟨a7, n7, c7, hv⟩ := h.ver
  refine ⟨⟨_, _, hv.1, ?_⟩, h.arr⟩
  rw [rowsUp_len]
  rfl

theorem vrows_bare (x : Nat) (fs : List (ByteArray × ByteArray)) (w : World) (h : BareAt w x fs) :
    Calls Tryz.prog 30 #[.pointer (some ⟨x, 0, none⟩)] w fun e w' => e = .returned (.slice none 0 0) ∧ w' = w := by
  have hc := (VerAt.cells h).2.2.2
  have RN := rrows_nil x 10 w hc
  have HRN := (show Hid _ from RN)
  clear RN hc
  go_enter Tryz.func30, Tryz.ntmps30
  go_wp2_with fail
  refine Calls.mono HRN.out ?_
  rintro e w1 ⟨rfl, rfl⟩
  go_wp2
  go_ret
  exact ⟨rfl, rfl⟩
theorem vrows_any (x : Nat) (fs : List (ByteArray × ByteArray)) (l : List St) (H : Nat → Hd) (g : Nat) (w : World) (h : RptAt w x fs l H g) (hl : l.length ≤ 10000) :
    Calls Tryz.prog 30 #[.pointer (some ⟨x, 0, none⟩)] w fun e w' => ∃ ob : Option Nat, e = .returned (rowsSl ob (rowsF l).length) ∧ RowsAt w' ob (rowsF l) ∧ (∀ k, ob = some k → w.heap.size ≤ k) ∧ Kept [] w w' := by
  have RN := rrows_any x 10 g (rowsUp l l.length) w h.tell (by rw [rowsUp_len]; exact hl)
  have HRN := (show Hid _ from RN)
  clear RN
  go_enter Tryz.func30, Tryz.ntmps30
  go_wp2_with fail
  refine Calls.mono HRN.out ?_
  rintro e w1 ⟨ob, rfl, h1, h2, h3⟩
  go_wp2
  go_ret
  exact ⟨ob, rfl, h1, h2, h3⟩

theorem four_kept {S : List Nat} {w w2 : World} {B : Nat} (h : Kept S w w2) (hB : w.heap.size ≤ B) (v0 v1 v2 v3 : Value) :
    Kept S w ((((w2.setCell ⟨B, 0, none⟩ v0).setCell ⟨B, 1, none⟩ v1).setCell ⟨B, 2, none⟩ v2).setCell ⟨B, 3, none⟩ v3) :=
  (((h.setCell (Or.inr hB) _).setCell (Or.inr hB) _).setCell (Or.inr hB) _).setCell (Or.inr hB) _
theorem four_keptS (w2 : World) (B : Nat) (v0 v1 v2 v3 : Value) :
    Kept [B] w2 ((((w2.setCell ⟨B, 0, none⟩ v0).setCell ⟨B, 1, none⟩ v1).setCell ⟨B, 2, none⟩ v2).setCell ⟨B, 3, none⟩ v3) :=
  ((((Kept.refl [B] w2).setCell (Or.inl (by simp)) _).setCell (Or.inl (by simp)) _).setCell (Or.inl (by simp)) _).setCell (Or.inl (by simp)) _

theorem eight_kept {S : List Nat} {w w2 : World} {A B : Nat} (h : Kept S w w2) (hA : A ∈ S ∨ w.heap.size ≤ A) (hB : B ∈ S ∨ w.heap.size ≤ B) (u0 u1 u2 u3 v0 v1 v2 v3 : Value) :
    Kept S w ((((((((w2.setCell ⟨A, 9, none⟩ u0).setCell ⟨A, 10, none⟩ u1).setCell ⟨A, 11, none⟩ u2).setCell ⟨A, 12, none⟩ u3).setCell ⟨B, 0, none⟩ v0).setCell ⟨B, 1, none⟩ v1).setCell ⟨B, 2, none⟩ v2).setCell ⟨B, 3, none⟩ v3) :=
  (((((((h.setCell hA _).setCell hA _).setCell hA _).setCell hA _).setCell hB _).setCell hB _).setCell hB _).setCell hB _

/-- What Verify leaves. -/
def VerSays (fs : List (ByteArray × ByteArray)) (k0 x : Nat) (w : World) (e : Ending) (w' : World) : Prop :=
  (if ((readAll fs k0).1.1 == 0) = true then e = .returned (.tuple #[fltV noFlt, .int .i64 0]) ∧ ∃ H g, RptAt w' x fs (readAll fs k0).2.2.sts H g ∧ w.heap.size ≤ g ∧ ∀ k, InH H k → w.heap.size ≤ k
   else e = .returned (.tuple #[fltV (readAll fs k0).1, .int .i64 6]) ∧ BareAt w' x fs) ∧ Kept [x] w w'

set_option maxHeartbeats 2000000 in
set_option maxRecDepth 100000 in
theorem verify_any (x k0 : Nat) (fs : List (ByteArray × ByteArray)) (n : ByteArray) (w : World) (h : SomeAt w x fs) (hf : findF fs n = k0) (hk0 : k0 < fs.length) (hsz : ∀ j, j < fs.length → (fileDt fs j).size ≤ 1024) :
    Calls Tryz.prog 15 #[.pointer (some ⟨x, 0, none⟩), .string n] w fun e w' => VerSays fs k0 x w e w' := by
  have hxw := h.lt
  obtain ⟨W, hW⟩ : ∃ W, W = w.alloc (.cells #[.int .i64 0, .string ⟨#[]⟩, .int .i64 0, .int .i64 0] 41) := ⟨_, rfl⟩
  have hK : Kept [] w W := by rw [hW]; exact (Kept.refl [] _).alloc _
  have hF : W.heap[w.heap.size]? = some (.cells zeroFault 41 (0, 0)) := by rw [hW]; exact heap_alloc_new _ _
  have hV := h.kept hK (by simp)
  have HW := (show Hid _ from hW.symm)
  have FA : Calls Tryz.prog 34 #[.pointer (some ⟨x, 0, none⟩), .string n] W fun e w' => e = .returned (.int .i64 k0) ∧ w' = W := by
    obtain ⟨rep, a, b, c, hv⟩ := hV
    rw [← hf]; exact find_any x _ fs _ n W hv
  have HFA := (show Hid _ from FA)
  have DA := drop_any x fs W hV
  have HDA := (show Hid _ from DA)
  clear FA DA hW
  have hki : ¬ ((k0 : Int) < 0) := by omega
  have OA := fun (w2 : World) (hB2 : BareAt w2 x fs) => on_any x _ k0 fs _ w2 hB2 hk0 hsz
  unfold OnSays at OA
  have HOA := (show Hid _ from OA)
  clear OA
  unfold VerSays
  generalize readAll fs k0 = R at *
  obtain ⟨⟨r, pf, pl, pc⟩, bg', d'⟩ := R
  simp only [fltV, noFlt] at HOA ⊢
  generalize d'.sts = l at *
  go_enter Tryz.func15, Tryz.ntmps15
  go_wp2_with fail
  rw [HW.out]
  refine Calls.mono HFA.out ?_
  rintro e w9 ⟨rfl, rfl⟩
  go_wp2_with fail
  refine Calls.mono HDA.out ?_
  rintro e w2 ⟨rfl, hB2, hk2⟩
  have hF2 := hk2.get hF (by simp; omega)
  go_wp2_with fail
  refine Calls.mono (HOA.out _ hB2) ?_
  rintro e w3 ⟨hcase, hk3⟩
  have hF3 := hk3.get hF2 (by simp)
  have hB3 := hB2.kept hk3 (by simp)
  have hKx : Kept [x] w w3 := ((hK.mono (by simp)).trans hk2).trans (hk3.mono (by simp))
  obtain ⟨z0, z1, z2, z3⟩ := zero_cells hF3
  have yf := free_of hF3
  have hF3w := lt_of_get hF3
  have hne : w.heap.size ≠ x := by omega
  have hne2 : x ≠ w.heap.size := by omega
  cases hr : (r == 0)
  · have hr' : (r != 0) = true := by simp [bne, hr]
    simp only [hr, Bool.false_eq_true, if_false] at hcase ⊢
    subst hcase
    have HB3 := (show Hid _ from hB3)
    clear hB3 hB2 hV
    go_wp2
    exact bodyPost_ret (v := .tuple #[.agg #[.int .i64 r, .string pf, .int .i64 pl, .int .i64 pc], .int .i64 6]) (by simp [results, Tryz.results15, go_sem, z0, z1, z2, z3, hF3w]) rfl
      ⟨⟨rfl, HB3.out.kept (((four_keptS w3 w.heap.size _ _ _ _).alloc _).alloc _) (by simp; omega)⟩, ((four_kept hKx (Nat.le_refl _) _ _ _ _).alloc _).alloc _⟩
  · have hr' : (r != 0) = false := by simp [bne, hr]
    simp only [hr, if_true] at hcase ⊢
    obtain ⟨H, g, a7, n7, c7, rfl, hS, hA, hN, hg⟩ := hcase
    have hz9 := lt_of_get hF
    have hz2 := hk2.size
    have hz3 := hk3.size
    obtain ⟨c9, c10, c11, c12⟩ := VerAt.cells hB3
    have yv := TabAt.free hB3
    have HT := (show Hid _ from VerAt.turn hB3 true (.slice (H 6).ao l.length (H 6).cap) (.slice a7 n7 c7) (.slice (some ⟨g, 0, none⟩) l.length l.length))
    have HS3 := (show Hid _ from hS)
    have HA3 := (show Hid _ from hA)
    have HN3 := (show Hid _ from hN)
    have hxw3 : x < w3.heap.size := TabAt.lt hB3
    clear hB3 hB2 hV hS hA hN
    unfold nilV at c10 c11 c12
    unfold turnV at HT
    go_wp2
    exact bodyPost_ret (v := .tuple #[.agg #[.int .i64 0, .string ⟨#[]⟩, .int .i64 0, .int .i64 0], .int .i64 0]) (by simp [results, Tryz.results15, go_sem, z0, z1, z2, z3, hF3w]) rfl
      ⟨⟨rfl, H, g, ⟨⟨a7, n7, c7, TabAt.kept HT.out (((four_keptS _ w.heap.size _ _ _ _).alloc _).alloc _) (by simp; omega)⟩, HS3.out.kept (((eight_kept (Kept.refl [x, w.heap.size] w3) (Or.inl (by simp)) (Or.inl (by simp)) _ _ _ _ _ _ _ _).alloc _).alloc _) (fun k hk => by have := HN3.out k hk; simp; omega), (((eight_kept (Kept.refl [x, w.heap.size] w3) (Or.inl (by simp)) (Or.inl (by simp)) _ _ _ _ _ _ _ _).alloc _).alloc _).get HA3.out (by simp; omega), ⟨by omega, fun k hk => by have := HN3.out k hk; omega⟩⟩, by omega, fun k hk => by have := HN3.out k hk; omega⟩,
        ((eight_kept hKx (Or.inl (by simp)) (Or.inr (Nat.le_refl _)) _ _ _ _ _ _ _ _).alloc _).alloc _⟩

end Go.Proofs.YtcipkfhpcbddiaaGreat

/- Package metaproofkeep: the table, the law's world; see. -/
namespace Go.Proofs.YtcipkfhpcbddiaaGreat
open Go.RowKit
attribute [local go_sem] build_nofault

theorem mName_is : isNameF ⟨#[109]⟩ = true := by decide +kernel

/-- No file is too long. -/
def FilesOk (fs : List (ByteArray × ByteArray)) : Prop := ∀ j, j < fs.length → (fileDt fs j).size ≤ 1024
/-- The table has the file m, or room for it; and N other files at most. -/
def MHas (N : Nat) (fs : List (ByteArray × ByteArray)) : Prop := ((∃ k : Nat, k < fs.length ∧ findF fs ⟨#[109]⟩ = k) ∧ fs.length ≤ N + 1) ∨ (findF fs ⟨#[109]⟩ = -1 ∧ fs.length ≤ N)
def MOk (N : Nat) (fs : List (ByteArray × ByteArray)) : Prop := MHas N fs ∧ FilesOk fs

theorem filesOk_all {fs : List (ByteArray × ByteArray)} : FilesOk fs ↔ ∀ f ∈ fs, f.2.size ≤ 1024 := by
  constructor
  · intro h f hf
    obtain ⟨i, hi, rfl⟩ := List.getElem_of_mem hf
    have := h i hi
    unfold fileDt at this
    rw [List.getD_eq_getElem?_getD, List.getElem?_eq_getElem hi] at this
    exact this
  · intro h j hj
    unfold fileDt
    rw [List.getD_eq_getElem?_getD, List.getElem?_eq_getElem hj]
    exact h _ (List.getElem_mem hj)
theorem filesOk_set {fs : List (ByteArray × ByteArray)} (h : FilesOk fs) (k : Nat) (n d : ByteArray) (hd : d.size ≤ 1024) : FilesOk (fs.set k (n, d)) := by
  rw [filesOk_all] at h ⊢
  intro f hf
  rcases List.mem_or_eq_of_mem_set hf with hf | rfl
  · exact h f hf
  · exact hd
theorem filesOk_snoc {fs : List (ByteArray × ByteArray)} (h : FilesOk fs) (n d : ByteArray) (hd : d.size ≤ 1024) : FilesOk (fs ++ [(n, d)]) := by
  rw [filesOk_all] at h ⊢
  intro f hf
  rcases List.mem_append.1 hf with hf | hf
  · exact h f hf
  · rw [List.mem_singleton.1 hf]; exact hd
theorem filesOk_nil : FilesOk [] := fun j hj => by simp at hj

theorem findFrom_set (n d : ByteArray) (fs : List (ByteArray × ByteArray)) (i j : Nat) (hj : j < fs.length) (h : findFrom n fs i = ((i + j : Nat) : Int)) : findFrom n (fs.set j (n, d)) i = ((i + j : Nat) : Int) := by
  induction fs generalizing i j with
  | nil => simp at hj
  | cons f r ih =>
    cases j with
    | zero => simp [findFrom]
    | succ j =>
      rw [findFrom] at h
      split at h
      · omega
      · next hne =>
        rw [List.set_cons_succ, findFrom, if_neg hne]
        have := ih (i + 1) j (by simpa using hj) (by rw [h]; omega)
        rw [this]; omega
theorem findFrom_snoc (n d : ByteArray) (fs : List (ByteArray × ByteArray)) (i : Nat) (h : findFrom n fs i = -1) : findFrom n (fs ++ [(n, d)]) i = ((i + fs.length : Nat) : Int) := by
  induction fs generalizing i with
  | nil => simp [findFrom]
  | cons f r ih =>
    rw [findFrom] at h
    split at h
    · omega
    · next hne =>
      rw [List.cons_append, findFrom, if_neg hne, ih (i + 1) h]
      simp; omega

theorem put_m {N : Nat} (hN : N ≤ 3) (fs : List (ByteArray × ByteArray)) (t : ByteArray) (h : MOk N fs) (ht : ¬ 1024 < t.size) :
    ∃ (k : Nat) (fs' : List (ByteArray × ByteArray)), putF fs ⟨#[109]⟩ t = (0, fs') ∧ k < fs'.length ∧ k < 4 ∧ findF fs' ⟨#[109]⟩ = k ∧ fileNm fs' k = ⟨#[109]⟩ ∧ fileDt fs' k = t ∧ MOk N fs' := by
  have hc : checkF ⟨#[109]⟩ t = 0 := by simp [checkF, mName_is, ht]
  obtain ⟨h, hok⟩ := h
  rcases h with ⟨⟨k, hk, hf⟩, hl⟩ | ⟨hf, hl⟩
  · have h2 : findF (fs.set k (⟨#[109]⟩, t)) ⟨#[109]⟩ = k := by
      have := findFrom_set ⟨#[109]⟩ t fs 0 k hk (by rw [show findFrom _ fs 0 = findF fs ⟨#[109]⟩ from rfl, hf]; simp)
      simpa [findF] using this
    refine ⟨k, fs.set k (⟨#[109]⟩, t), by simp [putF, hc, hf], by simpa using hk, by omega, h2, ?_, ?_, Or.inl ⟨⟨k, by simpa using hk, h2⟩, by simpa using hl⟩, filesOk_set hok k _ _ (by omega)⟩
    · simp [fileNm, hk]
    · simp [fileDt, hk]
  · have h2 : findF (fs ++ [(⟨#[109]⟩, t)]) ⟨#[109]⟩ = fs.length := by
      have := findFrom_snoc ⟨#[109]⟩ t fs 0 hf
      simpa [findF] using this
    refine ⟨fs.length, fs ++ [(⟨#[109]⟩, t)], by simp [putF, hc, hf]; omega, by simp, by omega, h2, ?_, ?_, Or.inl ⟨⟨fs.length, by simp, h2⟩, by simpa using hl⟩, filesOk_snoc hok _ _ (by omega)⟩
    · simp [fileNm]
    · simp [fileDt]
theorem put_long (fs : List (ByteArray × ByteArray)) (t : ByteArray) (ht : 1024 < t.size) : putF fs ⟨#[109]⟩ t = (3, fs) := by
  have hc : checkF ⟨#[109]⟩ t = 3 := by simp [checkF, mName_is, ht]
  simp [putF, hc]

def worldCells (x : Nat) (t : ByteArray) (rv : Value) : Array Value := #[.pointer (some ⟨x, 0, none⟩), .string t, rv, .int .i64 0, .slice none 0 0, .slice none 0 0, .slice none 0 0, .slice none 0 0, .slice none 0 0]
/-- The law's own world: its verifier, its text, the text's rows. -/
structure WorldAt (w : World) (b x : Nat) (T : ByteArray) (o : Option Nat) : Prop where
  blk : w.heap[b]? = some (.cells (worldCells x T (rowsSl o (rowsM T).length)) 49 (0, 0))
  rows : RowsAt w o (rowsM T)
  ne : ∀ g, o = some g → g ≠ b ∧ g ≠ x
theorem WorldAt.kept {w w' : World} {b x : Nat} {T : ByteArray} {o : Option Nat} {S : List Nat} (h : WorldAt w b x T o) (hk : Kept S w w') (hb : b ∉ S) (hg : ∀ g, o = some g → g ∉ S) : WorldAt w' b x T o :=
  ⟨hk.get h.blk hb, h.rows.kept hk hg, h.ne⟩
theorem WorldAt.still {w w' : World} {b x : Nat} {T : ByteArray} {o : Option Nat} (h : WorldAt w b x T o) (hk : Kept [] w w') : WorldAt w' b x T o := h.kept hk (by simp) (by simp)
theorem WorldAt.keptX {w w' : World} {b x : Nat} {T : ByteArray} {o : Option Nat} (h : WorldAt w b x T o) (hk : Kept [x] w w') (hx : x ≠ b) : WorldAt w' b x T o :=
  h.kept hk (by simp; omega) (fun g hg => by have := (h.ne g hg).2; simpa using this)
theorem WorldAt.lt {w : World} {b x : Nat} {T : ByteArray} {o : Option Nat} (h : WorldAt w b x T o) : b < w.heap.size := lt_of_get h.blk
theorem WorldAt.cells {w : World} {b x : Nat} {T : ByteArray} {o : Option Nat} (h : WorldAt w b x T o) : w.cell? ⟨b, 0, none⟩ = some (.pointer (some ⟨x, 0, none⟩)) ∧ w.cell? ⟨b, 1, none⟩ = some (.string T) ∧ w.cell? ⟨b, 2, none⟩ = some (rowsSl o (rowsM T).length) := by
  refine ⟨?_, ?_, ?_⟩ <;> (rw [cell_of h.blk]; rfl)
theorem rowsSl_is (o : Option Nat) (n : Nat) : ∃ ao k c, rowsSl o n = .slice ao k c := by
  cases o with
  | none => exact ⟨_, _, _, rfl⟩
  | some g => exact ⟨_, _, _, rfl⟩

def seenV (rv : Value) (r : Int) (f : ByteArray) (l c e : Int) : Value := .tuple #[.agg #[rv, .int .i64 r, .string f, .int .i64 l, .int .i64 c, .int .i64 e], .bool true]
theorem seen_cells {w : World} {r : Nat} {a0 a1 a2 a3 a4 a5 : Value} (h : w.heap[r]? = some (.cells #[a0, a1, a2, a3, a4, a5] 52 (0, 0))) :
    w.cell? ⟨r, 0, none⟩ = some a0 ∧ w.cell? ⟨r, 1, none⟩ = some a1 ∧ w.cell? ⟨r, 2, none⟩ = some a2 ∧ w.cell? ⟨r, 3, none⟩ = some a3 ∧ w.cell? ⟨r, 4, none⟩ = some a4 ∧ w.cell? ⟨r, 5, none⟩ = some a5 := by
  refine ⟨?_, ?_, ?_, ?_, ?_, ?_⟩ <;> (rw [cell_of h]; rfl)

set_option maxHeartbeats 2000000 in
set_option maxRecDepth 100000 in
theorem see_long (b x : Nat) (T t : ByteArray) (o : Option Nat) (fs : List (ByteArray × ByteArray)) (w : World) (hW : WorldAt w b x T o) (hV : SomeAt w x fs) (hx : x ≠ b) (ht : 1024 < t.size) (ht2 : t.size ≤ 4294967296) :
    Calls Tryz.prog 18 #[.pointer (some ⟨b, 0, none⟩), .string t] w fun e w' => e = .returned (seenV (.slice none 0 0) 0 ⟨#[]⟩ 0 0 3) ∧ WorldAt w' b x T o ∧ SomeAt w' x fs ∧ Kept [x] w w' := by
  have hbw := hW.lt
  have hxw := hV.lt
  obtain ⟨c0, c1, -⟩ := hW.cells
  obtain ⟨W, hWW⟩ : ∃ W, W = (w.alloc (.cells #[.slice none 0 0, .int .i64 0, .string ⟨#[]⟩, .int .i64 0, .int .i64 0, .int .i64 0] 52)).alloc (.cells #[.slice none 0 0, .int .i64 0, .string ⟨#[]⟩, .int .i64 0, .int .i64 0, .int .i64 0] 52) := ⟨_, rfl⟩
  have hKW0 : Kept [] w W := by rw [hWW]; exact ((Kept.refl _ _).alloc _).alloc _
  have s0 : W.heap[w.heap.size]? = some (.cells #[.slice none 0 0, .int .i64 0, .string ⟨#[]⟩, .int .i64 0, .int .i64 0, .int .i64 0] 52 (0, 0)) := by
    rw [hWW]; exact ((Kept.refl [] _).alloc _).get (heap_alloc_new _ _) (by simp)
  have s1 : W.heap[w.heap.size + 1]? = some (.cells #[.slice none 0 0, .int .i64 0, .string ⟨#[]⟩, .int .i64 0, .int .i64 0, .int .i64 0] 52 (0, 0)) := by
    rw [hWW]
    have e : (w.alloc (.cells #[.slice none 0 0, .int .i64 0, .string ⟨#[]⟩, .int .i64 0, .int .i64 0, .int .i64 0] 52)).heap.size = w.heap.size + 1 := by simp
    rw [← e]; exact heap_alloc_new _ _
  have HW := (show Hid _ from hWW.symm)
  have PF := vput_any x ⟨#[109]⟩ t fs W (hV.kept hKW0 (by simp)) (by simp [ByteArray.size]) ht2
  rw [put_long fs t ht] at PF
  have HPF := (show Hid _ from PF)
  clear PF hWW
  go_enter Tryz.func18, Tryz.ntmps18
  go_wp2_with fail
  rw [HW.out]
  refine Calls.mono HPF.out ?_
  rintro e w2 ⟨rfl, hV2, -, hk2⟩
  have hne1 : w.heap.size ≠ x := by omega
  have hne2 : w.heap.size + 1 ≠ x := by omega
  have s02 := hk2.get s0 (by simp; omega)
  have s12 := hk2.get s1 (by simp; omega)
  obtain ⟨y0, y1, y2, y3, y4, y5⟩ := seen_cells s02
  obtain ⟨z0, z1, z2, z3, z4, z5⟩ := seen_cells s12
  have f0 := free_of s02
  have f1 := free_of s12
  have HW2 : Hid (WorldAt w2 b x T o) := (hW.still hKW0).keptX hk2 hx
  have hkx : Kept [x] w w2 := (hKW0.mono (by simp)).trans hk2
  have hzz := hW.rows.lt
  have HGG : Hid (∀ g, o = some g → g ∉ [w.heap.size, w.heap.size + 1]) := fun g hg => by have := hzz g hg; simp; omega
  have hxx : x ∉ [w.heap.size, w.heap.size + 1] := by simp; omega
  have hbb : b ∉ [w.heap.size, w.heap.size + 1] := by simp; omega
  have hdd : decide (1024 < (t.size : Int)) = true := by simp; omega
  clear hzz
  go_wp2
  refine bodyPost_ret (v := seenV (.slice none 0 0) 0 ⟨#[]⟩ 0 0 3) (by simp [results, Tryz.results18, go_sem, seenV, y0, y1, y2, y3, y4, y5]) rfl ⟨rfl, ?_, ?_, ?_⟩
  · exact HW2.out.kept (S := [w.heap.size, w.heap.size + 1]) (by repeat (first | refine Kept.setCell ?_ (Or.inl (by simp)) _ | refine Kept.alloc ?_ _ | refine Kept.drew ?_ | exact Kept.refl _ _)) hbb HGG.out
  · exact hV2.kept (S := [w.heap.size, w.heap.size + 1]) (by repeat (first | refine Kept.setCell ?_ (Or.inl (by simp)) _ | refine Kept.alloc ?_ _ | refine Kept.drew ?_ | exact Kept.refl _ _)) hxx
  · exact (by repeat (first | refine Kept.setCell ?_ (Or.inr (by simp)) _ | refine Kept.alloc ?_ _ | refine Kept.drew ?_ | exact hkx))

end Go.Proofs.YtcipkfhpcbddiaaGreat

/- Package metaproofkeep: see, of a text that fits. -/
namespace Go.Proofs.YtcipkfhpcbddiaaGreat
open Go.RowKit
attribute [local go_sem] build_nofault

/-- What is said of a text that fits. -/
def seeV (o : Option Nat) (t : ByteArray) : Value :=
  if ((rdM t).1.1 == 0) = true then seenV (rowsSl o (rowsM t).length) 0 ⟨#[]⟩ 0 0 0 else seenV (.slice none 0 0) (rdM t).1.1 ⟨#[109]⟩ (lineAt t (rdM t).1.2) (colAt t (rdM t).1.2) 6

theorem eqFault (w : World) : (binOp .eql 41 (.agg #[.int .i64 0, .string ⟨#[]⟩, .int .i64 0, .int .i64 0]) (.agg #[.int .i64 0, .string ⟨#[]⟩, .int .i64 0, .int .i64 0])).run Tryz.prog w = .ok (.bool true) w := by kernel_rfl

/-- Verify of the file m, without inclusions. -/
theorem verify_m (x k : Nat) (fs : List (ByteArray × ByteArray)) (t : ByteArray) (w : World) (h : SomeAt w x fs) (hf : findF fs ⟨#[109]⟩ = k) (hk : k < fs.length) (hk4 : k < 4) (hnm : fileNm fs k = ⟨#[109]⟩) (hdt : fileDt fs k = t) (hsz : FilesOk fs) (hni : holdsF t = false) :
    Calls Tryz.prog 15 #[.pointer (some ⟨x, 0, none⟩), .string ⟨#[109]⟩] w fun e w' =>
      (if ((rdM t).1.1 == 0) = true then e = .returned (.tuple #[.agg #[.int .i64 0, .string ⟨#[]⟩, .int .i64 0, .int .i64 0], .int .i64 0]) ∧ ∃ H g, RptAt w' x fs (rdM t).2.sts H g ∧ w.heap.size ≤ g ∧ ∀ k, InH H k → w.heap.size ≤ k
       else e = .returned (.tuple #[.agg #[.int .i64 (rdM t).1.1, .string ⟨#[109]⟩, .int .i64 (lineAt t (rdM t).1.2), .int .i64 (colAt t (rdM t).1.2)], .int .i64 6]) ∧ BareAt w' x fs) ∧ Kept [x] w w' := by
  have hs : (fileDt fs k).size ≤ 1024 := hsz k hk
  have hp := readAll_plain fs k hk4 hs (by rw [hdt]; exact noInc_of t hni)
  rw [hnm, hdt] at hp
  refine (verify_any x k fs ⟨#[109]⟩ w h hf hk hsz).mono ?_
  rintro e w' ⟨hc, hK⟩
  refine ⟨?_, hK⟩
  rw [hp] at hc
  have er : (readF ⟨#[109]⟩ t 0 emptyDb) = rdM t := rfl
  rw [er] at hc
  unfold fltOf at hc
  cases hr : ((rdM t).1.1 == 0) with
  | true =>
    simp only [hr, if_true] at hc ⊢
    rw [if_pos (by rfl)] at hc
    exact hc
  | false =>
    simp only [hr, Bool.false_eq_true, if_false] at hc ⊢
    exact hc

/-- What see leaves. -/
def SeeSays (N b x : Nat) (T t : ByteArray) (o : Option Nat) (w : World) (e : Ending) (w' : World) : Prop :=
  ∃ o', e = .returned (seeV o' t) ∧ (((rdM t).1.1 == 0) = true → RowsAt w' o' (rowsM t)) ∧ (∀ g, o' = some g → w.heap.size ≤ g) ∧ WorldAt w' b x T o ∧ (∃ fs', SomeAt w' x fs' ∧ MOk N fs') ∧ Kept [x] w w'
theorem see_bad {N b x : Nat} {T t : ByteArray} {o : Option Nat} {w w' : World} (hr : ((rdM t).1.1 == 0) = false) (hW : WorldAt w' b x T o) (hF : ∃ fs', SomeAt w' x fs' ∧ MOk N fs') (hK : Kept [x] w w') :
    SeeSays N b x T t o w (.returned (seenV (.slice none 0 0) (rdM t).1.1 ⟨#[109]⟩ (lineAt t (rdM t).1.2) (colAt t (rdM t).1.2) 6)) w' := by
  refine ⟨none, ?_, fun h => ?_, fun g h => (by cases h), hW, hF, hK⟩
  · unfold seeV; rw [if_neg (by rw [hr]; simp)]
  · rw [hr] at h; cases h
theorem see_good {N b x : Nat} {T t : ByteArray} {o ob : Option Nat} {w w' : World} {rv : Value} (hr : ((rdM t).1.1 == 0) = true) (hv : rowsSl ob (rowsM t).length = rv) (hR : RowsAt w' ob (rowsM t)) (hg : ∀ g, ob = some g → w.heap.size ≤ g) (hW : WorldAt w' b x T o) (hF : ∃ fs', SomeAt w' x fs' ∧ MOk N fs') (hK : Kept [x] w w') :
    SeeSays N b x T t o w (.returned (seenV rv 0 ⟨#[]⟩ 0 0 0)) w' := by
  refine ⟨ob, ?_, fun _ => hR, hg, hW, hF, hK⟩
  unfold seeV; rw [if_pos hr, hv]

theorem five_kept {S : List Nat} {w w3 : World} {q : Nat} (h : Kept S w w3) (hq : q ∈ S ∨ w.heap.size ≤ q) (a0 a1 a2 a3 a4 : Value) (o : Obj) :
    Kept S w ((((((w3.setCell ⟨q, 1, none⟩ a0).setCell ⟨q, 2, none⟩ a1).setCell ⟨q, 3, none⟩ a2).setCell ⟨q, 4, none⟩ a3).setCell ⟨q, 5, none⟩ a4).alloc o) :=
  (((((h.setCell hq _).setCell hq _).setCell hq _).setCell hq _).setCell hq _).alloc o
theorem seven_kept {S : List Nat} {w w3 : World} {p q : Nat} (h : Kept S w w3) (hp : p ∈ S ∨ w.heap.size ≤ p) (hq : q ∈ S ∨ w.heap.size ≤ q) (a5 a6 a7 a8 a9 a10 a11 : Value) :
    Kept S w (((((((w3.setCell ⟨q, 0, none⟩ a5).setCell ⟨p, 0, none⟩ a6).setCell ⟨p, 1, none⟩ a7).setCell ⟨p, 2, none⟩ a8).setCell ⟨p, 3, none⟩ a9).setCell ⟨p, 4, none⟩ a10).setCell ⟨p, 5, none⟩ a11).drew :=
  (((((((h.setCell hq _).setCell hp _).setCell hp _).setCell hp _).setCell hp _).setCell hp _).setCell hp _).drew
theorem twelve_kept {S : List Nat} {w w3 : World} {p q : Nat} (h : Kept S w w3) (hp : p ∈ S ∨ w.heap.size ≤ p) (hq : q ∈ S ∨ w.heap.size ≤ q) (a0 a1 a2 a3 a4 a5 a6 a7 a8 a9 a10 a11 : Value) (o : Obj) :
    Kept S w (((((((((((((w3.setCell ⟨q, 1, none⟩ a0).setCell ⟨q, 2, none⟩ a1).setCell ⟨q, 3, none⟩ a2).setCell ⟨q, 4, none⟩ a3).setCell ⟨q, 5, none⟩ a4).setCell ⟨q, 0, none⟩ a5).setCell ⟨p, 0, none⟩ a6).setCell ⟨p, 1, none⟩ a7).setCell ⟨p, 2, none⟩ a8).setCell ⟨p, 3, none⟩ a9).setCell ⟨p, 4, none⟩ a10).setCell ⟨p, 5, none⟩ a11).alloc o).drew :=
  (((((((((((((h.setCell hq _).setCell hq _).setCell hq _).setCell hq _).setCell hq _).setCell hq _).setCell hp _).setCell hp _).setCell hp _).setCell hp _).setCell hp _).setCell hp _).alloc o).drew
theorem five_block {w3 : World} {q : Nat} (h : w3.heap[q]? = some (.cells #[.slice none 0 0, .int .i64 0, .string ⟨#[]⟩, .int .i64 0, .int .i64 0, .int .i64 0] 52 (0, 0))) (a0 a1 a2 a3 a4 : Value) (o : Obj) :
    ((((((w3.setCell ⟨q, 1, none⟩ a0).setCell ⟨q, 2, none⟩ a1).setCell ⟨q, 3, none⟩ a2).setCell ⟨q, 4, none⟩ a3).setCell ⟨q, 5, none⟩ a4).alloc o).heap[q]? = some (.cells #[.slice none 0 0, a0, a1, a2, a3, a4] 52 (0, 0)) := by
  refine ((Kept.refl [] _).alloc o).get ?_ (by simp)
  rw [block_setCell (block_setCell (block_setCell (block_setCell (block_setCell h 1 a0) 2 a1) 3 a2) 4 a3) 5 a4]
  rfl
theorem RptAt.kept {w w' : World} {x : Nat} {fs : List (ByteArray × ByteArray)} {l : List St} {H : Nat → Hd} {g : Nat} {S : List Nat} (h : RptAt w x fs l H g) (k : Kept S w w') (hx : x ∉ S) (hg : g ∉ S) (hH : ∀ k, InH H k → k ∉ S) : RptAt w' x fs l H g := by
  obtain ⟨a7, n7, c7, hv⟩ := h.ver
  exact ⟨⟨a7, n7, c7, TabAt.kept hv k hx⟩, h.sts.kept k hH, k.get h.arr hg, h.far⟩

set_option maxHeartbeats 3000000 in
set_option maxRecDepth 100000 in
theorem see_short {N : Nat} (hN : N ≤ 3) (b x : Nat) (T t : ByteArray) (o : Option Nat) (fs : List (ByteArray × ByteArray)) (w : World) (hW : WorldAt w b x T o) (hV : SomeAt w x fs) (hx : x ≠ b) (ht : ¬ 1024 < t.size) (hM : MOk N fs) (hni : holdsF t = false) :
    Calls Tryz.prog 18 #[.pointer (some ⟨b, 0, none⟩), .string t] w fun e w' => SeeSays N b x T t o w e w' := by
  have hbw := hW.lt
  have hxw := hV.lt
  obtain ⟨c0, c1, -⟩ := hW.cells
  obtain ⟨W, hWW⟩ : ∃ W, W = (w.alloc (.cells #[.slice none 0 0, .int .i64 0, .string ⟨#[]⟩, .int .i64 0, .int .i64 0, .int .i64 0] 52)).alloc (.cells #[.slice none 0 0, .int .i64 0, .string ⟨#[]⟩, .int .i64 0, .int .i64 0, .int .i64 0] 52) := ⟨_, rfl⟩
  have hKW0 : Kept [] w W := by rw [hWW]; exact ((Kept.refl _ _).alloc _).alloc _
  have s0 : W.heap[w.heap.size]? = some (.cells #[.slice none 0 0, .int .i64 0, .string ⟨#[]⟩, .int .i64 0, .int .i64 0, .int .i64 0] 52 (0, 0)) := by
    rw [hWW]; exact ((Kept.refl [] _).alloc _).get (heap_alloc_new _ _) (by simp)
  have s1 : W.heap[w.heap.size + 1]? = some (.cells #[.slice none 0 0, .int .i64 0, .string ⟨#[]⟩, .int .i64 0, .int .i64 0, .int .i64 0] 52 (0, 0)) := by
    rw [hWW]
    have e : (w.alloc (.cells #[.slice none 0 0, .int .i64 0, .string ⟨#[]⟩, .int .i64 0, .int .i64 0, .int .i64 0] 52)).heap.size = w.heap.size + 1 := by simp
    rw [← e]; exact heap_alloc_new _ _
  have HW := (show Hid _ from hWW.symm)
  obtain ⟨k, fs', hp, hk, hk4, hf, hnm, hdt, hM'⟩ := put_m hN fs t hM ht
  have PF := vput_any x ⟨#[109]⟩ t fs W (hV.kept hKW0 (by simp)) (by simp [ByteArray.size]) (by omega)
  rw [hp] at PF
  have HPF := (show Hid _ from PF)
  have VF := fun (w' : World) (h' : SomeAt w' x fs') => verify_m x k fs' t w' h' hf hk hk4 hnm hdt hM'.2 hni
  have HG := (show Hid _ from rdM_rec t (by omega) hni)
  have ER : Hid (rowsM t = rowsF (rdM t).2.sts) := rfl
  have HVF := (show Hid _ from VF)
  clear PF VF hWW hp hf hnm hdt
  obtain ⟨r, HR⟩ : ∃ r, Hid ((rdM t).1.1 = r) := ⟨_, rfl⟩
  obtain ⟨p, HP⟩ : ∃ p, Hid ((rdM t).1.2 = p) := ⟨_, rfl⟩
  obtain ⟨l, HL⟩ : ∃ l, Hid ((rdM t).2.sts = l) := ⟨_, rfl⟩
  rw [HR.out, HP.out, HL.out] at HVF
  rw [HL.out] at HG ER
  have hne1 : w.heap.size ≠ x := by omega
  have hne2 : w.heap.size + 1 ≠ x := by omega
  have hxx : x ∉ [w.heap.size, w.heap.size + 1] := by simp; omega
  have hbb : b ∉ [w.heap.size, w.heap.size + 1] := by simp; omega
  have hzz := hW.rows.lt
  have HGG : Hid (∀ g, o = some g → g ∉ [w.heap.size, w.heap.size + 1]) := fun g hg => by have := hzz g hg; simp; omega
  clear hzz
  have hsn := fun (wx : World) => Lib.run_eql_slice_nil (P := Tryz.prog) wx 44 59 none 0 0 0 0 Tryz.underlying44
  have HWk : Hid (WorldAt W b x T o) := hW.still hKW0
  clear hW
  go_enter Tryz.func18, Tryz.ntmps18
  go_wp2_with fail
  rw [HW.out]
  refine Calls.mono HPF.out ?_
  rintro e w2 ⟨rfl, -, hB2, hk2⟩
  have hB2 := hB2 trivial
  have s02 := hk2.get s0 (by simp; omega)
  have s12 := hk2.get s1 (by simp; omega)
  have HW2 : Hid (WorldAt w2 b x T o) := HWk.out.keptX hk2 hx
  have hkx2 : Kept [x] w w2 := (hKW0.mono (by simp)).trans hk2
  obtain ⟨y0, y1, y2, y3, y4, y5⟩ := seen_cells s02
  obtain ⟨z0, z1, z2, z3, z4, z5⟩ := seen_cells s12
  have f0 := free_of s02
  have f1 := free_of s12
  clear c0 c1
  obtain ⟨c0, c1, -⟩ := HW2.out.cells
  have hbw2 := HW2.out.lt
  have hs2 := hk2.size
  have hWs := lt_of_get s1
  have B2' : Hid (∀ v, BareAt (w2.setCell ⟨w.heap.size + 1, 5, none⟩ v) x fs') := fun v => hB2.kept (S := [w.heap.size, w.heap.size + 1]) ((Kept.refl _ _).setCell (Or.inl (by simp)) _) hxx
  go_wp2_with (go_at_call 30; refine (vrows_bare x fs' _ (by exact B2'.out _)).mono ?_; rintro e w9 ⟨rfl, rfl⟩)
  refine Calls.mono (HVF.out _ (by exact (B2'.out _).anyR)) ?_
  rintro e w3 ⟨hcase, hk3⟩
  have s03 := hk3.get ((Below.heap_setCell w2 ⟨w.heap.size + 1, 5, none⟩ (.int .i64 0) w.heap.size (by simp)).trans s02) (by simp; omega)
  have s13 : w3.heap[w.heap.size + 1]? = some (.cells #[.slice none 0 0, .int .i64 0, .string ⟨#[]⟩, .int .i64 0, .int .i64 0, .int .i64 0] 52 (0, 0)) := hk3.get ((block_setCell s12 5 (.int .i64 0)).trans (by simp)) (by simp; omega)
  have HW3 : Hid (WorldAt w3 b x T o) := (HW2.out.kept (S := [w.heap.size, w.heap.size + 1]) ((Kept.refl _ _).setCell (Or.inl (by simp)) _) hbb HGG.out).keptX hk3 hx
  have hkx : Kept [x] w w3 := (hkx2.setCell (Or.inr (by simp)) _).trans hk3
  have hz3 := lt_of_get s13
  have hz3' := lt_of_get s03
  have hb3 := HW3.out.lt
  clear y0 y1 y2 y3 y4 y5 z0 z1 z2 z3 z4 z5 f0 f1 c0 c1 s02 s12 s0 s1 hkx2 hk2 hk3 B2' hB2
  obtain ⟨y0, y1, y2, y3, y4, y5⟩ := seen_cells s03
  obtain ⟨z0, z1, z2, z3, z4, z5⟩ := seen_cells s13
  have f0 := free_of s03
  have f1 := free_of s13
  obtain ⟨c0, c1, -⟩ := HW3.out.cells
  cases hr : (r == 0)
  · simp only [hr, Bool.false_eq_true, if_false] at hcase
    obtain ⟨rfl, hB3⟩ := hcase
    have hr' : (r != 0) = true := by simp [bne, hr]
    have HB : Hid (∀ a0 a1 a2 a3 a4 ob, BareAt ((((((w3.setCell ⟨w.heap.size + 1, 1, none⟩ a0).setCell ⟨w.heap.size + 1, 2, none⟩ a1).setCell ⟨w.heap.size + 1, 3, none⟩ a2).setCell ⟨w.heap.size + 1, 4, none⟩ a3).setCell ⟨w.heap.size + 1, 5, none⟩ a4).alloc ob) x fs') := fun a0 a1 a2 a3 a4 ob => hB3.kept (five_kept (Kept.refl [w.heap.size, w.heap.size + 1] w3) (Or.inl (by simp)) _ _ _ _ _ _) hxx
    go_wp2_with (go_at_call 30; refine (vrows_bare x fs' _ (by exact HB.out _ _ _ _ _ _)).mono ?_; rintro e w9 ⟨rfl, rfl⟩)
    go_region
    all_goals go_wp2
    all_goals
      refine bodyPost_ret (v := seenV (.slice none 0 0) r ⟨#[109]⟩ (lineAt t p) (colAt t p) 6) (by simp [results, Tryz.results18, go_sem, seenV, hz3', y0, y1, y2, y3, y4, y5]) rfl ?_
      have hrr : ((rdM t).1.1 == 0) = false := by rw [HR.out]; exact hr
      rw [← HR.out, ← HP.out]
      refine see_bad hrr ?_ ?_ ?_
      · exact HW3.out.kept (S := [w.heap.size, w.heap.size + 1]) (twelve_kept (p := w.heap.size) (q := w.heap.size + 1) (Kept.refl _ _) (Or.inl (by simp)) (Or.inl (by simp)) _ _ _ _ _ _ _ _ _ _ _ _ _) hbb HGG.out
      · exact ⟨fs', hB3.anyR.kept (S := [w.heap.size, w.heap.size + 1]) (twelve_kept (p := w.heap.size) (q := w.heap.size + 1) (Kept.refl _ _) (Or.inl (by simp)) (Or.inl (by simp)) _ _ _ _ _ _ _ _ _ _ _ _ _) hxx, hM'⟩
      · exact twelve_kept (p := w.heap.size) (q := w.heap.size + 1) hkx (Or.inr (Nat.le_refl _)) (Or.inr (by omega)) _ _ _ _ _ _ _ _ _ _ _ _ _
  · simp only [hr, if_true] at hcase
    obtain ⟨rfl, H, g, hR3, hg3, hH3⟩ := hcase
    simp only [World.size_setCell] at hg3 hH3
    have hlen := HG.out.ok.len
    have hgn : g ∉ [w.heap.size, w.heap.size + 1] := by simp; omega
    have HHn : Hid (∀ k, InH H k → k ∉ [w.heap.size, w.heap.size + 1]) := fun k hk => by have := hH3 k hk; simp; omega
    have heq := fun (wx : World) => eqFault wx
    go_wp2_with fail
    refine (vrows_any x fs' l H g _ (by exact hR3.kept (five_kept (Kept.refl [w.heap.size, w.heap.size + 1] w3) (Or.inl (by simp)) _ _ _ _ _ _) hxx hgn HHn.out) hlen).mono ?_
    rintro e w9 ⟨ob, rfl, hO9, hf9, hk9⟩
    obtain ⟨ao, n9, cp9, hrs⟩ := rowsSl_is ob (rowsF l).length
    rw [hrs]
    have s19 := hk9.get (five_block s13 _ _ _ _ _ _) (by simp)
    have s09 := hk9.get ((five_kept (Kept.refl [w.heap.size + 1] w3) (Or.inl (by simp)) _ _ _ _ _ _).get s03 (by simp)) (by simp)
    have K9 : Kept [x] w w9 := (five_kept hkx (Or.inr (by omega)) _ _ _ _ _ _).trans (hk9.mono (by simp))
    have HW9 : Hid (WorldAt w9 b x T o) := (HW3.out.kept (five_kept (Kept.refl [w.heap.size, w.heap.size + 1] w3) (Or.inl (by simp)) _ _ _ _ _ _) hbb HGG.out).still hk9
    have HV9 : Hid (SomeAt w9 x fs') := (hR3.anyR.kept (five_kept (Kept.refl [w.heap.size, w.heap.size + 1] w3) (Or.inl (by simp)) _ _ _ _ _ _) hxx).kept hk9 (by simp)
    have HO9 : Hid (RowsAt w9 ob (rowsF l)) := hO9
    have HF9 : Hid (∀ g, ob = some g → w.heap.size + 2 ≤ g) := fun g hg => by have := hf9 g hg; simp at this; omega
    have HRS := (show Hid _ from hrs)
    clear y0 y1 y2 y3 y4 y5 z0 z1 z2 z3 z4 z5 f0 f1 c0 c1 s03 s13 hkx hk9 hO9 hf9 hrs hR3
    obtain ⟨y0, y1, y2, y3, y4, y5⟩ := seen_cells s09
    obtain ⟨z0, z1, z2, z3, z4, z5⟩ := seen_cells s19
    have f0 := free_of s09
    have f1 := free_of s19
    have hz9 := lt_of_get s19
    have hz9' := lt_of_get s09
    go_wp2_with fail
    go_region
    all_goals go_wp2
    all_goals
      refine bodyPost_ret (v := seenV (.slice ao n9 cp9) 0 ⟨#[]⟩ 0 0 0) (by simp [results, Tryz.results18, go_sem, seenV, y0, y1, y2, y3, y4, y5]) rfl ?_
      have hrr : ((rdM t).1.1 == 0) = true := by rw [HR.out]; exact hr
      refine see_good hrr (ob := ob) (by rw [ER.out]; exact HRS.out) ?_ (fun g hg => by have := HF9.out g hg; omega) ?_ ?_ ?_
      · rw [ER.out]; exact RowsAt.kept HO9.out (S := [w.heap.size, w.heap.size + 1]) (seven_kept (p := w.heap.size) (q := w.heap.size + 1) (Kept.refl _ _) (Or.inl (by simp)) (Or.inl (by simp)) _ _ _ _ _ _ _) (fun g hg => by have := HF9.out g hg; simp; omega)
      · exact HW9.out.kept (S := [w.heap.size, w.heap.size + 1]) (seven_kept (p := w.heap.size) (q := w.heap.size + 1) (Kept.refl _ _) (Or.inl (by simp)) (Or.inl (by simp)) _ _ _ _ _ _ _) hbb HGG.out
      · exact ⟨fs', HV9.out.kept (S := [w.heap.size, w.heap.size + 1]) (seven_kept (p := w.heap.size) (q := w.heap.size + 1) (Kept.refl _ _) (Or.inl (by simp)) (Or.inl (by simp)) _ _ _ _ _ _ _) hxx, hM'⟩
      · exact seven_kept (p := w.heap.size) (q := w.heap.size + 1) K9 (Or.inr (Nat.le_refl _)) (Or.inr (by omega)) _ _ _ _ _ _ _

end Go.Proofs.YtcipkfhpcbddiaaGreat

/- Package metaproofkeep: back, chunk. -/
namespace Go.Proofs.YtcipkfhpcbddiaaGreat
open Go.RowKit

theorem Fine.good {T : ByteArray} (h : Fine T) : Good (rdM T).2.sts := rdM_rec T h.size h.inc
theorem Fine.rws {T : ByteArray} (h : Fine T) : RwsOk (rowsM T) := h.good.rows
theorem Fine.zero {T : ByteArray} (h : Fine T) : ((rdM T).1.1 == 0) = true := by rw [h.ok]; rfl

/-- What the law's world comes to. -/
def BackSays (N b x : Nat) (T : ByteArray) (o : Option Nat) (w : World) (e : Ending) (w' : World) : Prop :=
  e = .returned (.bool true) ∧ WorldAt w' b x T o ∧ (∃ fs', SomeAt w' x fs' ∧ MOk N fs') ∧ Kept [x] w w'

set_option maxHeartbeats 1000000 in
set_option maxRecDepth 100000 in
theorem back_any {N : Nat} (hN : N ≤ 3) (b x : Nat) (T : ByteArray) (o : Option Nat) (fs : List (ByteArray × ByteArray)) (w : World) (hW : WorldAt w b x T o) (hV : SomeAt w x fs) (hx : x ≠ b) (hM : MOk N fs) (hT : Fine T) :
    Calls Tryz.prog 21 #[.pointer (some ⟨b, 0, none⟩)] w fun e w' => BackSays N b x T o w e w' := by
  obtain ⟨c0, c1, -⟩ := hW.cells
  have hbw := hW.lt
  have SF := see_short hN b x T T o fs w hW hV hx (by have := hT.size; omega) hM hT.inc
  unfold SeeSays at SF
  have HSF := (show Hid _ from SF)
  have hrr := hT.zero
  have hok := hT.rws
  clear SF
  go_enter Tryz.func21, Tryz.ntmps21
  go_wp2_with fail
  refine Calls.mono HSF.out ?_
  rintro e w2 ⟨o', rfl, hR2, hg2, hW2, ⟨fs', hV2, hM2⟩, hk2⟩
  have hR2 := hR2 hrr
  unfold seeV
  rw [if_pos hrr]
  have SR := fun (w' : World) (k : Kept [] w2 w') => sameRows_any o' o (rowsM T) w' (hR2.still k) (hW2.rows.still k) hok
  have hb2 := hW2.lt
  obtain ⟨d0, d1, d2⟩ := hW2.cells
  obtain ⟨ao1, n1, c1', hrs1⟩ := rowsSl_is o' (rowsM T).length
  obtain ⟨ao2, n2, c2', hrs2⟩ := rowsSl_is o (rowsM T).length
  rw [hrs1, hrs2] at SR
  rw [hrs2] at d2
  rw [hrs1]
  have HSR := (show Hid _ from SR)
  clear SR hrs1 hrs2 hok hR2 c0 c1
  simp only [seenV]
  go_upto_region 2 with fail
  obtain ⟨W3, hW3⟩ : ∃ W3, W3 = w2.alloc (.cells #[.slice ao1 n1 c1', .int .i64 0, .string ⟨#[]⟩, .int .i64 0, .int .i64 0, .int .i64 0] 52) := ⟨_, rfl⟩
  have k3 : Kept [] w2 W3 := by rw [hW3]; exact (Kept.refl [] _).alloc _
  have B3 : W3.heap[w2.heap.size]? = some (.cells #[.slice ao1 n1 c1', .int .i64 0, .string ⟨#[]⟩, .int .i64 0, .int .i64 0, .int .i64 0] 52 (0, 0)) := by rw [hW3]; exact heap_alloc_new _ _
  rw [← hW3]
  have s0 := (seen_cells B3).1
  have e2 : W3.cell? ⟨b, 2, none⟩ = some (.slice ao2 n2 c2') := by
    have := (hW2.still k3).cells.2.2
    rw [World.cell?_of_block (k3.block b hb2 (by simp))]; exact d2
  have hb3 : b < W3.heap.size := Nat.lt_of_lt_of_le hb2 k3.size
  clear hW3 d0 d1 d2
  go_region_with (go_at_call 20; refine (HSR.out _ (by exact k3.trans (Kept.refl [] W3).drew)).mono ?_; rintro e w4 ⟨rfl, k4⟩)
  all_goals
    have K4 : Kept [] w2 w4 := (k3.trans (Kept.refl [] W3).drew).trans k4
    have B4 := k4.get ((Kept.refl [] W3).drew.get B3 (by simp)) (by simp)
    obtain ⟨-, -, -, -, -, s5⟩ := seen_cells B4
    have HW4 := (show Hid _ from hW2.still K4)
    have hz4 := lt_of_get B4
    clear s0 e2 B3
    go_wp2
    go_ret
    exact ⟨rfl, HW4.out, ⟨fs', hV2.kept K4 (by simp), hM2⟩, hk2.trans (K4.mono (by simp))⟩

end Go.Proofs.YtcipkfhpcbddiaaGreat
