/- Package reader: readFile, of a file without inclusions. -/
import Derived.Test.YtkblmflajfomaaaReadF
namespace Go.Proofs.Ytkblmflajfomaaa
open Go.RowKit
attribute [local go_sem] build_fault build_nofault

theorem build_scan (w : World) (n d : ByteArray) (l c : Int) : (Instr.build 93 #[(0, .agg #[.string n, .string d]), (2, .int .i64 l), (3, .int .i64 c)]).run Try.prog w = .ok (.agg #[.string n, .string d, .int .i64 0, .int .i64 l, .int .i64 c]) w :=
  run_build w 93 _ _ (by kernel_rfl)
attribute [local go_sem] build_scan

set_option maxHeartbeats 400000 in
theorem newScan_any (n d : ByteArray) (w : World) :
    Calls Try.prog 32 #[.agg #[.string n, .string d]] w fun e w' => ∃ s, e = .returned (.pointer (some ⟨s, 0, none⟩)) ∧ w.heap.size ≤ s ∧ ScanAt w' s n d 0 ∧ Kept [] w w' := by
  go_enter Try.func32, Try.ntmps32
  go_wp2
  go_ret
  refine ⟨w.heap.size + 1, rfl, by omega, ?_, ((Kept.refl _ _).alloc _).alloc _⟩
  have := heap_alloc_new (w.alloc (.cells #[.string n, .string d] 57)) (.cells #[.string n, .string d, .int .i64 0, .int .i64 1, .int .i64 1] 93)
  simpa [ScanAt, scanCells, lineAt, colAt] using this

theorem DbIs.pre {w : World} {b t : Nat} {pre post : List Value} {d : Db} {H : Nat → Hd} (h : DbIs w b t pre post d H) (i : Nat) (hi : i < pre.length) (u : Value) :
    DbIs (w.setCell ⟨b, i, none⟩ u) b t (pre.set i u) post d H ∧ Turned b w H (w.setCell ⟨b, i, none⟩ u) H := by
  refine ⟨⟨?_, ?_, h.apart, h.off⟩, (Kept.refl _ _).setCell (Or.inl (by simp)) _, fun _ hk => Or.inl hk⟩
  · rw [block_setCell h.blk, List.setIfInBounds_toArray, List.set_append_left _ _ hi]
  · intro j hj
    refine (h.own j hj).moved (fun k hk => Below.heap_setCell _ _ _ _ ?_)
    rintro rfl
    exact h.off j hj hk
theorem DbIs.preCell {w : World} {b t : Nat} {pre post : List Value} {d : Db} {H : Nat → Hd} (h : DbIs w b t pre post d H) (i : Nat) (hi : i < pre.length) : w.cell? ⟨b, i, none⟩ = pre[i]? := by
  rw [cell_of h.blk]; simp [List.getElem?_append_left hi]
theorem five {l : List Value} (h : l.length = 5) : ∃ a b c d e, l = [a, b, c, d, e] := by
  match l, h with
  | [a, b, c, d, e], _ => exact ⟨a, b, c, d, e, rfl⟩

theorem blks_lt {w : World} {b t : Nat} {pre post : List Value} {d : Db} {H : Nat → Hd} (h : DbIs w b t pre post d H) (k : Nat) (hk : k ∈ blks H) : k < w.heap.size := by
  obtain ⟨i, hi, e⟩ := mem_blks.1 hk
  exact (h.own i hi).lt e

theorem Turned.beyond {b : Nat} {w wr w' : World} {H H1 : Nat → Hd} {S : List Nat} (T : Turned b w H wr H1) (k : Kept S wr w') (hS : ∀ x, x ∈ S → w.heap.size ≤ x) : Turned b w H w' H1 :=
  ⟨⟨k.os.trans T.1.os, k.tape.trans T.1.tape, k.output.trans T.1.output, Nat.le_trans T.1.size k.size, fun i hi hn => by
    rw [← T.1.block i hi hn]
    exact k.block i (Nat.lt_of_lt_of_le hi T.1.size) (fun hm => by have := hS i hm; omega)⟩, T.2⟩
theorem Bnd.mono {d : Db} {m m' : Nat} (h : Bnd d m) (hm : m ≤ m') : Bnd d m' :=
  ⟨by have := h.labels; omega, by have := h.constants; omega, by have := h.variables; omega, by have := h.active; omega, by have := h.typed; omega, by have := h.blocks; omega, fun p hp => by have := h.inner p hp; omega⟩
theorem Bnd.empty : Bnd emptyDb 0 := ⟨by simp [emptyDb], by simp [emptyDb], by simp [emptyDb], by simp [emptyDb], by simp [emptyDb], by simp [emptyDb], by simp [emptyDb]⟩

/-- A word of the text is no longer than the text. -/
theorem commentF_text (d : ByteArray) (k : Nat) (hd : d.size ≤ 1024) : (commentF d k).1.text.size ≤ 1024 := by
  unfold commentF
  generalize d.size - k + 1 = f
  induction f generalizing k with
  | zero => simp [commentTo, ByteArray.size]
  | succ f ih =>
    rw [commentTo]
    split
    · split
      · simp [ByteArray.size]
      · exact ih _
    · split
      · simp [ByteArray.size]
      · exact runF_text d k hd
theorem nextF_text (d : ByteArray) (k : Nat) (hd : d.size ≤ 1024) : (nextF d k).1.text.size ≤ 1024 := by
  unfold nextF
  generalize d.size - k + 1 = f
  induction f generalizing k with
  | zero => simp [nextTo, ByteArray.size]
  | succ f ih =>
    rw [nextTo]
    split
    · split
      · exact ih _
      · exact commentF_text d _ hd
    · exact runF_text d k hd

theorem isWordF_eq {i : Item} (h : isWordF i = true) : i = ⟨i.text, 0, false, i.pos⟩ := by
  obtain ⟨t, u, f, p⟩ := i
  simp [isWordF] at h
  rw [h.1, h.2]
theorem isWordF_not {i : Item} (h : isWordF i = false) (hf : i.fin = false) : (i.rule == 0) = false := by
  simp [isWordF, hf] at h
  simpa using h

theorem six_in {w : World} {r : Nat} (a0 a1 a2 a3 a4 a5 : Value) : Kept [r] w ((((((w.setCell ⟨r, 0, none⟩ a0).setCell ⟨r, 1, none⟩ a1).setCell ⟨r, 2, none⟩ a2).setCell ⟨r, 3, none⟩ a3).setCell ⟨r, 4, none⟩ a4).setCell ⟨r, 5, none⟩ a5) :=
  ((((((Kept.refl _ _).setCell (Or.inl (by simp)) _).setCell (Or.inl (by simp)) _).setCell (Or.inl (by simp)) _).setCell (Or.inl (by simp)) _).setCell (Or.inl (by simp)) _).setCell (Or.inl (by simp)) _
theorem four_in {w : World} {r : Nat} (a0 a1 a2 a3 : Value) : Kept [r] w ((((w.setCell ⟨r, 0, none⟩ a0).setCell ⟨r, 1, none⟩ a1).setCell ⟨r, 2, none⟩ a2).setCell ⟨r, 3, none⟩ a3) :=
  ((((Kept.refl _ _).setCell (Or.inl (by simp)) _).setCell (Or.inl (by simp)) _).setCell (Or.inl (by simp)) _).setCell (Or.inl (by simp)) _
theorem zero_cells {w : World} {r : Nat} (h : w.heap[r]? = some (.cells #[.int .i64 0, .string ⟨#[]⟩, .int .i64 0, .int .i64 0] 47 (0, 0))) :
    w.cell? ⟨r, 0, none⟩ = some (.int .i64 0) ∧ w.cell? ⟨r, 1, none⟩ = some (.string ⟨#[]⟩) ∧ w.cell? ⟨r, 2, none⟩ = some (.int .i64 0) ∧ w.cell? ⟨r, 3, none⟩ = some (.int .i64 0) := by
  refine ⟨?_, ?_, ?_, ?_⟩ <;> (rw [cell_of h]; rfl)

def zeroFault : Array Value := #[.int .i64 0, .string ⟨#[]⟩, .int .i64 0, .int .i64 0]

set_option maxHeartbeats 4000000 in
set_option maxRecDepth 100000 in
theorem readFile_any (b v tt k0 : Nat) (f1 f2 f3 f4 : Value) (fs : List (ByteArray × ByteArray)) (more : List Value) (H : Nat → Hd) (n s : ByteArray) (w : World)
    (h : DbIs w b 79 [.pointer (some ⟨v, 0, none⟩), f1, f2, f3, f4] [] emptyDb H) (hv : v ≠ b) (hvb : v ∉ blks H) (ht : TabAt w v tt fs more) (hk0 : k0 < fs.length) (hn : fileNm fs k0 = n) (hsd : fileDt fs k0 = s)
    (hb : ([.pointer (some ⟨v, 0, none⟩), f1, f2, f3, f4] : List Value)[1 + k0]? = some (.bool false)) (hs : s.size ≤ 1024)
    (hni : ∀ k, k ≤ s.size → isWordF (nextF s k).1 = true → ((nextF s k).1.text.toList == [36, 91]) = false) :
    Calls Try.prog 29 #[.pointer (some ⟨b, 0, none⟩), .int .i64 k0] w fun e w' => e = .returned (faultV n s (readF s 0 emptyDb).1 (readF s 0 emptyDb).2) ∧ Kept (b :: blks H) w w' := by
  have hbw := h.lt
  have hfr := h.free
  have hlen := ht.2
  have hvw := ht.lt
  have c1 := h.preCell (1 + k0) (by simp; omega)
  rw [hb] at c1
  have c0 := h.preCell 0 (by simp)
  simp only [List.getElem?_cons_zero] at c0
  go_enter Try.func29, Try.ntmps29
  go_wp2_with fail
  obtain ⟨W, hW⟩ : ∃ W, W = (w.setCell ⟨b, 1 + k0, none⟩ (.bool true)).alloc (.cells #[.int .i64 0, .string ⟨#[]⟩, .int .i64 0, .int .i64 0] 47) := ⟨_, rfl⟩
  rw [← hW]
  have P1 := h.pre (1 + k0) (by simp; omega) (.bool true)
  obtain ⟨g0, g1, g2, g3, g4, hgg⟩ := five (l := ([.pointer (some ⟨v, 0, none⟩), f1, f2, f3, f4] : List Value).set (1 + k0) (.bool true)) (by simp)
  rw [hgg] at P1
  have D1 : DbIs W b 79 [g0, g1, g2, g3, g4] [] emptyDb H := by rw [hW]; exact P1.1.still ((Kept.refl [] _).alloc _)
  have T1 : Turned b w H W H := by rw [hW]; exact P1.2.still ((Kept.refl [] _).alloc _)
  have F1 : W.heap[w.heap.size]? = some (.cells zeroFault 47 (0, 0)) := by
    rw [hW]
    have := heap_alloc_new (w.setCell ⟨b, 1 + k0, none⟩ (.bool true)) (.cells zeroFault 47)
    simpa [World.setCell, zeroFault] using this
  have ht1 : TabAt W v tt fs more := ht.kept T1.1 (by simp; exact ⟨hv, hvb⟩)
  have hbl := blks_lt h
  clear P1 hgg hW c0 c1 hfr ht
  refine (file_any v tt k0 fs more _ ht1 hk0).mono ?_
  rintro e w2 ⟨rfl, hk2⟩
  rw [hn, hsd]
  go_wp2_with fail
  refine (newScan_any n s _).mono ?_
  rintro e w3 ⟨sp, rfl, hsp, h3, hk3⟩
  go_wp2_with fail
  refine (next_any sp 0 n s _ hs (by omega) h3).mono ?_
  rintro e w4 ⟨rfl, h4, hk4⟩
  have hWl := lt_of_get F1
  have hz2 := hk2.size
  have hz3 := hk3.size
  have hz4 := hk4.size
  have hspb : sp ≠ b := by omega
  have T4 : Turned b w H w4 H := (((T1.still hk2).still hk3).beyond hk4 (by simp; omega))
  have F4 : w4.heap[w.heap.size]? = some (.cells zeroFault 47 (0, 0)) := hk4.get (hk3.get (hk2.get F1 (by simp)) (by simp)) (by simp; omega)
  have D4 : DbIs w4 b 79 [g0, g1, g2, g3, g4] [] emptyDb H := ((D1.still hk2).still hk3).kept hk4 (by simp; omega) (by intro k hk; have := hbl k hk; simp; omega)
  have hsp4 := lt_of_get h4
  have hnb : ∀ k, w.heap.size ≤ k → k ∉ blks H := fun k hk hm => by have := hbl k hm; omega
  have HNB : Hid (∀ k, w.heap.size ≤ k → k ∉ blks H) := hnb
  clear hnb hbl D1 T1 F1 ht1 hk2 hk3 hk4 h3
  simp only [itemV]
  go_wp2
  go_loopg [7] s.size (fun g _ wr => ∃ (j : Nat) (d : Db) (H1 : Nat → Hd), j ≤ s.size ∧ g = s.size - j ∧ Bnd d j ∧ Hid (readF s 0 emptyDb = readF s j d) ∧ ScanAt wr sp n s (nextF s j).2 ∧ ItemAt wr w4.heap.size n s (nextF s j).1 ∧
    wr.heap[w.heap.size]? = some (.cells zeroFault 47 (0, 0)) ∧ DbIs wr b 79 [g0, g1, g2, g3, g4] [] d H1 ∧ Turned b w H wr H1 ∧ (sp ∉ blks H1 ∧ w4.heap.size ∉ blks H1 ∧ w.heap.size ∉ blks H1))
  case atStart => exact ⟨0, emptyDb, H, by omega, by omega, Bnd.empty, rfl, h4.kept ((Kept.refl [] _).alloc _) (by simp), heap_alloc_new _ _, ((Kept.refl [] _).alloc _).get F4 (by simp), D4.still ((Kept.refl [] _).alloc _), T4.still ((Kept.refl [] _).alloc _), HNB.out _ (by omega), HNB.out _ (by omega), HNB.out _ (by omega)⟩
  case round =>
    obtain ⟨j, d, H1, hj, hg, hB, hR, h5, hI, hF, D, T, hn1, hn2, hn3⟩ := hrel
    have hnl := nextF_le s j hj
    have htx := nextF_text s j hs
    have hni' := hni j hj
    have L1 : Hid (_ → _ → readF s j d = _) := read_on s j d hj
    have L2 : Hid (_ → _ → readF s j d = _) := read_rule s j d
    have L3 : Hid (_ → _ → _ → readF s j d = _) := read_end s j d
    have L4 : Hid (_ → _ → _ → readF s j d = _) := read_open s j d
    have L5 : Hid (_ → _ → readF s j d = _) := read_bad s j d
    have L6 : Hid (isWordF (nextF s j).1 = false → (nextF s j).1.fin = false → ((nextF s j).1.rule == 0) = false) := isWordF_not
    generalize hrr : nextF s j = r at *
    obtain ⟨⟨t, u, f, p⟩, z⟩ := r
    clear hrr
    simp only at h5 hI hnl htx hni'
    have HNI : Hid (isWordF ⟨t, u, f, p⟩ = true → (t.toList == [36, 91]) = false) := hni'
    clear hni'
    obtain ⟨q0, q1, q2, q3, q4, q5⟩ := hI.cells
    have hFw := lt_of_get hF
    have hsw := lt_of_get h5
    have hIw := lt_of_get hI
    have hDw := D.lt
    cases hw : (u == 0 && !f)
    · cases f
      · have hu : (u == 0) = false := by simpa using hw
        have HF : Hid (readF s 0 emptyDb = (u, p)) := hR.out.trans (L5.out hw rfl)
        clear L1 L2 L3 L4 L5 L6 HNI
        go_wp2_with fail
        refine (isWord_any t n _ (lineAt s p) (colAt s p) _ _).mono ?_
        rintro e w5 ⟨rfl, hk5⟩
        have hI5 := hI.kept hk5 (by simp)
        have h55 := h5.kept hk5 (by simp)
        have hF5 := hk5.get hF (by simp)
        have D5 := D.still hk5
        have T5 := T.still hk5
        clear q0 q1 q2 q3 q4 q5 hI h5 hF D T hk5
        obtain ⟨q0, q1, q2, q3, q4, q5⟩ := hI5.cells
        go_wp2_with fail
        refine (faultOf_any t n u (lineAt s p) (colAt s p) _ _).mono ?_
        rintro e w6 ⟨rfl, hk6⟩
        simp only [Bool.false_eq_true, if_false]
        have hF6 := hk6.get hF5 (by simp)
        have T6 := T5.still hk6
        obtain ⟨z0, z1, z2, z3⟩ := zero_cells hF6
        have y := free_of hF6
        go_wp2
        exact bodyPost_ret (v := .agg #[.int .i64 u, .string n, .int .i64 (lineAt s p), .int .i64 (colAt s p)]) (by simp [results, Try.results29, go_sem, z0, z1, z2, z3]) rfl
          ⟨by rw [HF.out]; simp [faultV, hu], (T6.beyond (four_in _ _ _ _) (by simp)).1⟩
      · cases ho : openF d
        · have HF : Hid (readF s 0 emptyDb = (0, 0)) := hR.out.trans (L3.out hw rfl ho)
          clear L1 L2 L3 L4 L5 L6 HNI
          go_wp2_with fail
          refine (isWord_any t n _ (lineAt s p) (colAt s p) _ _).mono ?_
          rintro e w5 ⟨rfl, hk5⟩
          have hI5 := hI.kept hk5 (by simp)
          have h55 := h5.kept hk5 (by simp)
          have hF5 := hk5.get hF (by simp)
          have D5 := D.still hk5
          have T5 := T.still hk5
          clear q0 q1 q2 q3 q4 q5 hI h5 hF D T hk5
          obtain ⟨q0, q1, q2, q3, q4, q5⟩ := hI5.cells
          go_wp2_with fail
          refine (open_any b 79 5 [g0, g1, g2, g3, g4] [] d H1 _ D5 rfl).mono ?_
          rintro e w6 ⟨rfl, hw6⟩
          have hF6 := hw6 ▸ hF5
          have T6 := hw6 ▸ T5
          clear hw6
          obtain ⟨z0, z1, z2, z3⟩ := zero_cells hF6
          have y := free_of hF6
          go_wp2
          exact bodyPost_ret (v := .agg #[.int .i64 0, .string ⟨#[]⟩, .int .i64 0, .int .i64 0]) (by simp [results, Try.results29, go_sem, z0, z1, z2, z3]) rfl
            ⟨by rw [HF.out]; simp [faultV], (T6.beyond (four_in _ _ _ _) (by simp)).1⟩
        · have HF : Hid (readF s 0 emptyDb = (7, p)) := hR.out.trans (L4.out hw rfl ho)
          clear L1 L2 L3 L4 L5 L6 HNI
          go_wp2_with fail
          refine (isWord_any t n _ (lineAt s p) (colAt s p) _ _).mono ?_
          rintro e w5 ⟨rfl, hk5⟩
          have hI5 := hI.kept hk5 (by simp)
          have h55 := h5.kept hk5 (by simp)
          have hF5 := hk5.get hF (by simp)
          have D5 := D.still hk5
          have T5 := T.still hk5
          clear q0 q1 q2 q3 q4 q5 hI h5 hF D T hk5
          obtain ⟨q0, q1, q2, q3, q4, q5⟩ := hI5.cells
          go_wp2_with fail
          refine (open_any b 79 5 [g0, g1, g2, g3, g4] [] d H1 _ D5 rfl).mono ?_
          rintro e w6 ⟨rfl, hw6⟩
          have hF6 := hw6 ▸ hF5
          have T6 := hw6 ▸ T5
          have hI6 := hw6 ▸ hI5
          clear hw6 q0 q1 q2 q3 q4 q5
          obtain ⟨q0, q1, q2, q3, q4, q5⟩ := hI6.cells
          go_wp2_with fail
          refine (faultOf_any t n u (lineAt s p) (colAt s p) _ _).mono ?_
          rintro e w7 ⟨rfl, hk7⟩
          simp only [if_true]
          have hF7 := hk7.get hF6 (by simp)
          have T7 := T6.still hk7
          obtain ⟨z0, z1, z2, z3⟩ := zero_cells hF7
          have y := free_of hF7
          go_wp2
          exact bodyPost_ret (v := .agg #[.int .i64 7, .string n, .int .i64 (lineAt s p), .int .i64 (colAt s p)]) (by simp [results, Try.results29, go_sem, z0, z1, z2, z3]) rfl
            ⟨by rw [HF.out]; simp [faultV], (T7.beyond (four_in _ _ _ _) (by simp)).1⟩
    · have hu : u = 0 := by simp at hw; exact hw.1
      have hf : f = false := by simp at hw; exact hw.2
      subst hu hf
      have hsm := hB.small (N := 100000000) (by omega)
      have hBt := hB.take t
      have L1' : Hid (_ → readF s j d = _) := L1.out hw
      have L2' : Hid (_ → readF s j d = _) := L2.out hw
      have RW := fun (w' : World) (h' : DbIs w' b 79 [g0, g1, g2, g3, g4] [] d H1) => readWord_any b 79 g0 g1 g2 g3 g4 d H1 (.pointer (some ⟨sp, 0, none⟩)) t n (lineAt s p) (colAt s p) w' h' hsm.1 (by omega) hsm.2 (HNI.out hw)
      have HRW := (show Hid _ from RW)
      clear RW L1 L2 L3 L4 L5 L6 HNI
      generalize takeF d t = td at *
      obtain ⟨r, d'⟩ := td
      simp only at L1' L2' HRW hBt
      cases hr : (r == 0)
      · have hr' : (r != 0) = true := by simp [bne, hr]
        have HF : Hid (readF s 0 emptyDb = (r, p)) := hR.out.trans (L2'.out hr)
        clear L1' L2'
        go_wp2_with fail
        refine (isWord_any t n _ (lineAt s p) (colAt s p) _ _).mono ?_
        rintro e w5 ⟨rfl, hk5⟩
        have hI5 := hI.kept hk5 (by simp)
        have h55 := h5.kept hk5 (by simp)
        have hF5 := hk5.get hF (by simp)
        have D5 := D.still hk5
        have T5 := T.still hk5
        clear q0 q1 q2 q3 q4 q5 hI h5 hF D T hk5
        obtain ⟨q0, q1, q2, q3, q4, q5⟩ := hI5.cells
        go_wp2_with fail
        refine (HRW.out _ D5).mono ?_
        rintro e w6 ⟨rfl, H2, D6, T6⟩
        simp only [hr, Bool.false_eq_true, if_false]
        have hF6 := T6.1.get hF5 (by simp; exact ⟨by omega, hn3⟩)
        have T7 := T5.trans T6
        have hF6w := lt_of_get hF6
        have y6 := free_of hF6
        obtain ⟨z0, z1, z2, z3⟩ := zero_cells hF6
        go_wp2
        exact bodyPost_ret (v := .agg #[.int .i64 r, .string n, .int .i64 (lineAt s p), .int .i64 (colAt s p)]) (by simp [results, Try.results29, go_sem, hF6w, z0, z1, z2, z3]) rfl
          ⟨by rw [HF.out]; simp only [faultV, hr]; simp, (((T7.beyond (four_in _ _ _ _) (by simp)).still ((Kept.refl [] _).alloc _))).1⟩
      · have hr' : (r != 0) = false := by simp [bne, hr]
        have HF : Hid (readF s 0 emptyDb = readF s z d') := hR.out.trans (L1'.out hr)
        clear L1' L2'
        go_wp2_with fail
        refine (isWord_any t n _ (lineAt s p) (colAt s p) _ _).mono ?_
        rintro e w5 ⟨rfl, hk5⟩
        have hI5 := hI.kept hk5 (by simp)
        have h55 := h5.kept hk5 (by simp)
        have hF5 := hk5.get hF (by simp)
        have D5 := D.still hk5
        have T5 := T.still hk5
        clear q0 q1 q2 q3 q4 q5 hI h5 hF D T hk5
        obtain ⟨q0, q1, q2, q3, q4, q5⟩ := hI5.cells
        go_wp2_with fail
        refine (HRW.out _ D5).mono ?_
        rintro e w6 ⟨rfl, H2, D6, T6⟩
        simp only [hr, if_true]
        have hF6 := T6.1.get hF5 (by simp; exact ⟨by omega, hn3⟩)
        have hI6 := hI5.kept T6.1 (by simp; exact ⟨by omega, hn2⟩)
        have h6 := h55.kept T6.1 (by simp; exact ⟨by omega, hn1⟩)
        have m1 := fresh_not T6 sp (lt_of_get h55) hn1
        have m2 := fresh_not T6 w4.heap.size (lt_of_get hI5) hn2
        have m3 := fresh_not T6 w.heap.size (lt_of_get hF5) hn3
        have T7 := T5.trans T6
        have hF6w := lt_of_get hF6
        have hI6w := lt_of_get hI6
        have h6w := lt_of_get h6
        go_wp2_with fail
        refine (next_any sp z n s _ hs hnl.2.1 (by exact h6.kept ((Kept.refl [] _).alloc _) (by simp))).mono ?_
        rintro e w8 ⟨rfl, h8, hk8⟩
        have hI8 := (hI6.kept ((Kept.refl [] _).alloc _) (by simp)).kept hk8 (by simp; omega)
        have hF8 := hk8.get (((Kept.refl [] _).alloc _).get hF6 (by simp)) (by simp; omega)
        have D8 := (D6.still ((Kept.refl [] _).alloc _)).kept hk8 (by simp; omega) (by intro k hk; simp; rintro rfl; exact m1 hk)
        have T8 := (T7.still ((Kept.refl [] _).alloc _)).beyond hk8 (by simp; omega)
        have yy := free_of hI8
        have hI8w := lt_of_get hI8
        clear q0 q1 q2 q3 q4 q5
        obtain ⟨q0, q1, q2, q3, q4, q5⟩ := hI8.cells
        simp only [itemV]
        go_wp2
        go_roundg (s.size - z)
        case measure => have := hnl.2.2 hw; omega
        case rel =>
          have hz := hnl.2.2 hw
          exact ⟨z, d', H2, hnl.2.1, rfl, hBt.mono (by omega), HF.out, six_scan h8 (by omega) _ _ _ _ _ _, item_stored hI8 _, six_other hF8 (by omega) _ _ _ _ _ _,
            D8.kept (six_in _ _ _ _ _ _) (by simp; omega) (by intro k hk; simp; rintro rfl; exact m2 hk), T8.beyond (six_in _ _ _ _ _ _) (by simp; omega), m1, m2, m3⟩

end Go.Proofs.Ytkblmflajfomaaa
