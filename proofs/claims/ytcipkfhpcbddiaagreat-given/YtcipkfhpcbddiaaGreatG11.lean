/- Our texts: Read6, Rec1, Rec2, Rec3, Rec4, Rec5, Ap1. -/
import Derived.Test.YtcipkfhpcbddiaaGreatG10
/- Package reader: Read. The record, as others find it. -/
namespace Go.Proofs.YtcipkfhpcbddiaaGreat
open Go.RowKit
attribute [local go_sem] build_fault build_nofault

/-- Statements in memory: the array, and each one's own two. -/
structure StsIs (w : World) (l : List St) (H : Nat → Hd) : Prop where
  own : Owns w (H 6) (rowT l H)
  syms : ∀ i s, l[i]? = some s → Owns w (H (10 + 2 * i)) (rowS s.symbols)
  prfs : ∀ i s, l[i]? = some s → Owns w (H (11 + 2 * i)) (rowW s.proof)
theorem DbIs.record {w : World} {b t : Nat} {pre post : List Value} {d : Db} {H : Nat → Hd} (h : DbIs w b t pre post d H) : StsIs w d.sts H := by
  refine ⟨h.own 6, fun i s hs => ?_, fun i s hs => ?_⟩
  · have := h.own (10 + 2 * i)
    rw [show 10 + 2 * i = 2 * i + 10 by omega] at this ⊢
    have e : rowsOf d H (2 * i + 10) = rowS s.symbols := by simp [rowsOf, inner, symsAt, hs]
    rw [e] at this; exact this
  · have := h.own (11 + 2 * i)
    rw [show 11 + 2 * i = (2 * i + 1) + 10 by omega] at this ⊢
    have q : (2 * i + 1) % 2 = 1 := by omega
    have q2 : (2 * i + 1) / 2 = i := by omega
    have e : rowsOf d H ((2 * i + 1) + 10) = rowW s.proof := by simp [rowsOf, inner, prfAt, q, q2, hs]
    rw [e] at this; exact this
theorem StsIs.keptP {w w' : World} {l : List St} {H : Nat → Hd} {P : Nat → Prop} (h : StsIs w l H) (k : KeptP P w w') (hP : ∀ x, InH H x → ¬ P x) : StsIs w' l H :=
  ⟨h.own.moved (fun x hx => k.block x (h.own.lt hx) (hP x ⟨6, hx⟩)), fun i s hs => (h.syms i s hs).moved (fun x hx => k.block x ((h.syms i s hs).lt hx) (hP x ⟨_, hx⟩)), fun i s hs => (h.prfs i s hs).moved (fun x hx => k.block x ((h.prfs i s hs).lt hx) (hP x ⟨_, hx⟩))⟩
theorem StsIs.kept {w w' : World} {l : List St} {H : Nat → Hd} {S : List Nat} (h : StsIs w l H) (k : Kept S w w') (hP : ∀ x, InH H x → x ∉ S) : StsIs w' l H :=
  h.keptP (k.toP (P := (· ∈ S)) (fun _ hm _ => hm)) hP
theorem StsIs.still {w w' : World} {l : List St} {H : Nat → Hd} (h : StsIs w l H) (k : Kept [] w w') : StsIs w' l H := h.kept k (by simp)

theorem build_reader (w : World) (a : Option Addr) : (Instr.build 113 #[(0, .pointer a)]).run Tryz.prog w = .ok (.agg #[.pointer a, .bool false, .bool false, .bool false, .bool false,
    .slice none 0 0, .slice none 0 0, .slice none 0 0, .slice none 0 0, .slice none 0 0, .slice none 0 0, .slice none 0 0, .slice none 0 0, .int .i64 0, .string ⟨#[]⟩, .slice none 0 0, .bool false, .slice none 0 0]) w :=
  run_build w 113 _ _ (by kernel_rfl)
theorem build_norec (w : World) : (Instr.build 82 #[]).run Tryz.prog w = .ok (.agg #[.slice none 0 0, .slice none 0 0]) w :=
  run_build w 82 _ _ (by kernel_rfl)
attribute [local go_sem] build_reader build_norec

def noHd : Nat → Hd := fun _ => ⟨none, 0⟩
theorem not_no (k : Nat) : ¬ InH noHd k := by rintro ⟨i, h⟩; simp [noHd, Hd.blk] at h
def bg0 : List Bool := [false, false, false, false]

theorem DbIs.begin {w : World} {b t : Nat} {pre : List Value} (h : w.heap[b]? = some (.cells (pre ++ (dbList emptyDb noHd ++ [])).toArray t (0, 0))) : DbIs w b t pre [] emptyDb noHd := by
  refine ⟨h, ?_, fun i j _ => Or.inl rfl, fun i e => by simp [noHd, Hd.blk] at e⟩
  intro i
  match i with
  | 0 => exact World.ownsRow_nil _ _ _ _
  | 1 => exact World.ownsRow_nil _ _ _ _
  | 2 => exact World.ownsRow_nil _ _ _ _
  | 3 => exact World.ownsRow_nil _ _ _ _
  | 4 => exact World.ownsRow_nil _ _ _ _
  | 5 => exact World.ownsRow_nil _ _ _ _
  | 6 => exact World.ownsRow_nil _ _ _ _
  | 7 => exact World.ownsRow_nil _ _ _ _
  | 8 => exact World.ownsRow_nil _ _ _ _
  | 9 => exact World.ownsRow_nil _ _ _ _
  | n + 10 =>
    have e : rowsOf emptyDb noHd (n + 10) = if n % 2 = 0 then rowS [] else rowW [] := by simp [rowsOf, inner, emptyDb, symsAt, prfAt]
    rw [e]
    split
    · exact World.ownsRow_nil _ _ _ _
    · exact World.ownsRow_nil _ _ _ _

theorem record_any (b t o : Nat) (pre post : List Value) (d : Db) (H : Nat → Hd) (w : World) (h : DbIs w b t pre post d H) (ho : pre.length = o) :
    Calls Tryz.prog 51 #[.pointer (some ⟨b, o, none⟩)] w fun e w' => e = .returned (.agg #[.slice (H 6).ao d.sts.length (H 6).cap, .slice (H 7).ao d.rbl.length (H 7).cap]) ∧ Kept [] w w' := by
  obtain ⟨q0, q1, q2, q3, q4, q5, q6, q7, q8, q9, q10, q11, q12⟩ := h.cells o ho
  clear q0 q1 q2 q3 q4 q5 q8 q9 q10 q11 q12
  have hbw := h.lt
  go_enter Tryz.func51, Tryz.ntmps51
  go_wp2
  exact bodyPost_ret (v := .agg #[.slice (H 6).ao d.sts.length (H 6).cap, .slice (H 7).ao d.rbl.length (H 7).cap]) (by simp [results, Tryz.results51, go_sem]) rfl ⟨rfl, (Kept.refl _ _).alloc _⟩

theorem meas_le (fs : List (ByteArray × ByteArray)) (hsz : ∀ j, j < fs.length → (fileDt fs j).size ≤ 1024) (bg : List Bool) : meas fs bg ≤ 4104 := by
  have h : ∀ j, unb fs bg j ≤ 1026 := by
    intro j
    unfold unb
    split
    · omega
    · rcases Nat.lt_or_ge j fs.length with h | h
      · have := hsz j h; omega
      · have : (fileDt fs j).size = 0 := by unfold fileDt; rw [List.getD_eq_getElem?_getD, List.getElem?_eq_none h]; rfl
        omega
  have h0 := h 0
  have h1 := h 1
  have h2 := h 2
  have h3 := h 3
  unfold meas
  omega

theorem kept_24 {S : List Nat} {a w : World} {A B : Nat} (h : Kept S a w) (hA : A ∈ S ∨ a.heap.size ≤ A) (hB : B ∈ S ∨ a.heap.size ≤ B) (u0 u1 v0 v1 v2 v3 : Value) :
    Kept S a ((((((w.setCell ⟨A, 0, none⟩ u0).setCell ⟨A, 1, none⟩ u1).setCell ⟨B, 0, none⟩ v0).setCell ⟨B, 1, none⟩ v1).setCell ⟨B, 2, none⟩ v2).setCell ⟨B, 3, none⟩ v3) :=
  (((((h.setCell hA _).setCell hA _).setCell hB _).setCell hB _).setCell hB _).setCell hB _

/-- The whole database from a file on. -/
def readAll (fs : List (ByteArray × ByteArray)) (root : Nat) : Red := fileR fs 5000 root bg0 emptyDb

set_option maxHeartbeats 1600000 in
set_option maxRecDepth 100000 in
theorem read_any (v tt k0 : Nat) (fs : List (ByteArray × ByteArray)) (more : List Value) (w : World)
    (ht : TabAt w v tt fs more) (hk0 : k0 < fs.length) (hsz : ∀ j, j < fs.length → (fileDt fs j).size ≤ 1024) :
    Calls Tryz.prog 44 #[.pointer (some ⟨v, 0, none⟩), .int .i64 k0] w fun e w' =>
      (if ((readAll fs k0).1.1 == 0) = true then ∃ H, e = .returned (.tuple #[.agg #[.slice (H 6).ao (readAll fs k0).2.2.sts.length (H 6).cap, .slice (H 7).ao (readAll fs k0).2.2.rbl.length (H 7).cap], fltV noFlt]) ∧ StsIs w' (readAll fs k0).2.2.sts H ∧ (∀ k, InH H k → w.heap.size ≤ k)
       else e = .returned (.tuple #[.agg #[.slice none 0 0, .slice none 0 0], fltV (readAll fs k0).1])) ∧ Kept [] w w' := by
  have hvw := ht.lt
  obtain ⟨W, hW⟩ : ∃ W, W = ((w.alloc (.cells #[.slice none 0 0, .slice none 0 0] 82)).alloc (.cells #[.int .i64 0, .string ⟨#[]⟩, .int .i64 0, .int .i64 0] 41)).alloc (.cells #[.pointer (some ⟨v, 0, none⟩), .bool false, .bool false, .bool false, .bool false,
    .slice none 0 0, .slice none 0 0, .slice none 0 0, .slice none 0 0, .slice none 0 0, .slice none 0 0, .slice none 0 0, .slice none 0 0, .int .i64 0, .string ⟨#[]⟩, .slice none 0 0, .bool false, .slice none 0 0] 113) := ⟨_, rfl⟩
  have hK : Kept [] w W := by rw [hW]; exact (((Kept.refl [] _).alloc _).alloc _).alloc _
  have hA : W.heap[w.heap.size]? = some (.cells #[.slice none 0 0, .slice none 0 0] 82 (0, 0)) := by
    rw [hW]; exact (((Kept.refl [] _).alloc _).alloc _).get (heap_alloc_new _ _) (by simp)
  have hF : W.heap[w.heap.size + 1]? = some (.cells zeroFault 41 (0, 0)) := by
    rw [hW]
    have e : (w.alloc (.cells #[.slice none 0 0, .slice none 0 0] 82)).heap.size = w.heap.size + 1 := by simp
    rw [← e]
    exact ((Kept.refl [] _).alloc _).get (heap_alloc_new _ _) (by simp)
  have hD : DbIs W (w.heap.size + 2) 113 (preOf v bg0) [] emptyDb noHd := by
    refine DbIs.begin ?_
    rw [hW]
    have e : ((w.alloc (.cells #[.slice none 0 0, .slice none 0 0] 82)).alloc (.cells #[.int .i64 0, .string ⟨#[]⟩, .int .i64 0, .int .i64 0] 41)).heap.size = w.heap.size + 2 := by simp
    rw [← e]
    exact heap_alloc_new _ _
  have hT : TabAt W v tt fs more := ht.kept hK (by simp)
  have HW := (show Hid _ from hW.symm)
  have RF := readFile_any (w.heap.size + 2) v tt fs more hsz (by omega) 5000 k0 bg0 emptyDb noHd W 0 hk0 rfl Bnd.empty (by have := meas_le fs hsz bg0; omega) (by have := meas_le fs hsz bg0; omega) hD hT (not_no _)
  unfold FileSays at RF
  have HRF := (show Hid _ from RF)
  clear hW RF
  have HKN : Hid ((fileR fs 5000 k0 bg0 emptyDb).2.1.length = 4) := ((go_kin fs 5000).2 k0 bg0 emptyDb 0 rfl Bnd.empty).1
  have ER : Hid (readAll fs k0 = fileR fs 5000 k0 bg0 emptyDb) := rfl
  rw [ER.out]
  clear ER
  generalize fileR fs 5000 k0 bg0 emptyDb = R at *
  obtain ⟨⟨r, pf, pl, pc⟩, bg', d'⟩ := R
  simp only [fltV] at HRF HKN ⊢
  go_enter Tryz.func44, Tryz.ntmps44
  go_upto_region 2 with fail
  rw [HW.out]
  go_wp2_with fail
  refine Calls.mono HRF.out ?_
  rintro e w2 ⟨rfl, H2, D2, T2⟩
  have hA2 := T2.1.get hA (by rintro (e | e); omega; exact not_no _ e)
  have hF2 := T2.1.get hF (by rintro (e | e); omega; exact not_no _ e)
  have hz2 := T2.1.size
  have hWs := D2.lt
  have HNI : Hid (∀ k, InH H2 k → w.heap.size ≤ k) := fun k hk => by
    rcases T2.2 k hk with h | h
    · exact absurd h (not_no _)
    · have := hK.size; omega
  have HN2 : Hid (∀ k, InH H2 k → k ≠ w.heap.size ∧ k ≠ w.heap.size + 1 ∧ k ≠ w.heap.size + 2) := fun k hk => by
    have hz := lt_of_get hF
    have hz3 := hD.lt
    rcases T2.2 k hk with h | h
    · exact absurd h (not_no _)
    · omega
  have K2 : Hid (Kept [] w w2) := ⟨T2.1.os.trans hK.os, T2.1.tape.trans hK.tape, T2.1.output.trans hK.output, Nat.le_trans hK.size T2.1.size, fun k hk _ => (T2.1.block k (Nat.lt_of_lt_of_le hk hK.size) (by rintro (e | e); omega; exact not_no _ e)).trans (hK.block k hk (by simp))⟩
  have a0 : w2.cell? ⟨w.heap.size, 0, none⟩ = some (.slice none 0 0) := by rw [cell_of hA2]; rfl
  have a1 : w2.cell? ⟨w.heap.size, 1, none⟩ = some (.slice none 0 0) := by rw [cell_of hA2]; rfl
  obtain ⟨z0, z1, z2, z3⟩ := zero_cells hF2
  have ya := free_of hA2
  have yf := free_of hF2
  have hA2w := lt_of_get hA2
  have hF2w := lt_of_get hF2
  cases hr : (r == 0)
  · have hr' : (r != 0) = true := by simp [bne, hr]
    go_wp2_with fail
    go_region
    all_goals go_wp2
    all_goals exact bodyPost_ret (v := .tuple #[.agg #[.slice none 0 0, .slice none 0 0], .agg #[.int .i64 r, .string pf, .int .i64 pl, .int .i64 pc]]) (by simp [results, Tryz.results44, go_sem, a0, a1, z0, z1, z2, z3, hA2w, hF2w]) rfl ⟨rfl, ((kept_24 K2.out (Or.inr (Nat.le_refl _)) (Or.inr (Nat.le_succ _)) _ _ _ _ _ _).alloc _).drew⟩
  · have hr' : (r != 0) = false := by simp [bne, hr]
    go_wp2_with fail
    refine (record_any (w.heap.size + 2) 113 5 (preOf v bg') [] d' H2 _ (by exact D2.still ((Kept.refl [] _).alloc _)) (preOf_len v bg' HKN.out)).mono ?_
    rintro e w4 ⟨rfl, hk4⟩
    have k24 : Kept [] w2 w4 := ((Kept.refl [] _).alloc _).trans hk4
    have hA4 := k24.get hA2 (by simp)
    have hF4 := k24.get hF2 (by simp)
    have K4 : Hid (Kept [] w w4) := K2.out.trans k24
    have S4 : Hid (StsIs w4 d'.sts H2) := D2.record.still k24
    clear a0 a1 z0 z1 z2 z3 ya yf hk4
    have a0 : w4.cell? ⟨w.heap.size, 0, none⟩ = some (.slice none 0 0) := by rw [cell_of hA4]; rfl
    have a1 : w4.cell? ⟨w.heap.size, 1, none⟩ = some (.slice none 0 0) := by rw [cell_of hA4]; rfl
    obtain ⟨z0, z1, z2, z3⟩ := zero_cells hF4
    have ya := free_of hA4
    have yf := free_of hF4
    go_wp2
    exact bodyPost_ret (v := .tuple #[.agg #[.slice (H2 6).ao d'.sts.length (H2 6).cap, .slice (H2 7).ao d'.rbl.length (H2 7).cap], .agg #[.int .i64 0, .string ⟨#[]⟩, .int .i64 0, .int .i64 0]]) (by simp [results, Tryz.results44, go_sem, a0, a1, z0, z1, z2, z3]) rfl
      ⟨⟨H2, rfl, S4.out.kept (kept_24 (Kept.refl [w.heap.size, w.heap.size + 1] w4) (Or.inl (by simp)) (Or.inl (by simp)) _ _ _ _ _ _) (fun k hk => by have := HN2.out k hk; simp; omega), HNI.out⟩,
        kept_24 K4.out (Or.inr (Nat.le_refl _)) (Or.inr (Nat.le_succ _)) _ _ _ _ _ _⟩

end Go.Proofs.YtcipkfhpcbddiaaGreat

/- Package record: what it tells. -/
namespace Go.Proofs.YtcipkfhpcbddiaaGreat
open Go.RowKit

/-- A record at cell o of block b. -/
structure RecAt (w : World) (b o : Nat) (l : List St) (H : Nat → Hd) : Prop where
  cell : ∃ arr t, w.heap[b]? = some (.cells arr t (0, 0)) ∧ arr[o]? = some (.slice (H 6).ao l.length (H 6).cap)
  sts : StsIs w l H
theorem RecAt.at {w : World} {b o : Nat} {l : List St} {H : Nat → Hd} (h : RecAt w b o l H) : w.cell? ⟨b, o, none⟩ = some (.slice (H 6).ao l.length (H 6).cap) := by
  obtain ⟨arr, t, h1, h2⟩ := h.cell
  rw [cell_of h1]; exact h2
theorem RecAt.lt {w : World} {b o : Nat} {l : List St} {H : Nat → Hd} (h : RecAt w b o l H) : b < w.heap.size := by
  obtain ⟨arr, t, h1, h2⟩ := h.cell
  exact lt_of_get h1
theorem RecAt.kept {w w' : World} {b o : Nat} {l : List St} {H : Nat → Hd} {S : List Nat} (h : RecAt w b o l H) (k : Kept S w w') (hb : b ∉ S) (hP : ∀ x, InH H x → x ∉ S) : RecAt w' b o l H := by
  obtain ⟨arr, t, h1, h2⟩ := h.cell
  exact ⟨⟨arr, t, k.get h1 hb, h2⟩, h.sts.kept k hP⟩
theorem RecAt.still {w w' : World} {b o : Nat} {l : List St} {H : Nat → Hd} (h : RecAt w b o l H) (k : Kept [] w w') : RecAt w' b o l H := h.kept k (by simp) (by simp)

/-- The array of the statements, and the cells of one. -/
theorem StsIs.stmt {w : World} {l : List St} {H : Nat → Hd} (h : StsIs w l H) (n : Nat) (hn : n < l.length) :
    ∃ g, (H 6).ao = some ⟨g, 0, none⟩ ∧ l.length ≤ (H 6).cap ∧ (H 6).cap ≤ 9223372036854775807 ∧ w.cell? ⟨g, n * 8, none⟩ = some (.int .i64 l[n].kind) ∧ w.cell? ⟨g, n * 8 + 1, none⟩ = some (.string l[n].label) ∧ w.cell? ⟨g, n * 8 + 2, none⟩ = some (.slice (H (10 + 2 * n)).ao l[n].symbols.length (H (10 + 2 * n)).cap) ∧
    w.cell? ⟨g, n * 8 + 3, none⟩ = some (.slice (H (11 + 2 * n)).ao l[n].proof.length (H (11 + 2 * n)).cap) ∧ w.cell? ⟨g, n * 8 + 4, none⟩ = some (.string l[n].fin.file) ∧ w.cell? ⟨g, n * 8 + 5, none⟩ = some (.int .i64 l[n].fin.line) ∧
    w.cell? ⟨g, n * 8 + 6, none⟩ = some (.int .i64 l[n].fin.col) ∧ w.cell? ⟨g, n * 8 + 7, none⟩ = some (.int .i64 l[n].til) := by
  rcases h.own.ways with ⟨_, h0, _⟩ | ⟨g, cur, e1, e2, e3, e4, -⟩
  · have : l.length = 0 := h0
    omega
  · have c := fun j (hj : j < 8) v (hv : (stV l[n] (H (10 + 2 * n)) (H (11 + 2 * n)))[j]? = some v) => h.own.cell e1 (n * 8 + j) v ((stsV_at l H n hn j hj).trans hv)
    exact ⟨g, e1, e3, by unfold maxLen at e4; exact e4, c 0 (by omega) _ rfl, c 1 (by omega) _ rfl, c 2 (by omega) _ rfl, c 3 (by omega) _ rfl, c 4 (by omega) _ rfl, c 5 (by omega) _ rfl, c 6 (by omega) _ rfl, c 7 (by omega) _ rfl⟩

theorem count_any (b o : Nat) (l : List St) (H : Nat → Hd) (w : World) (h : RecAt w b o l H) :
    Calls Tryz.prog 45 #[.pointer (some ⟨b, o, none⟩)] w fun e w' => e = .returned (.int .i64 l.length) ∧ w' = w := by
  have c := h.at
  go_enter Tryz.func45, Tryz.ntmps45
  go_wp2
  go_ret
  exact ⟨rfl, rfl⟩

/-- A statement as a value. -/
def stVal (s : St) (a b : Hd) : Value :=
  .agg #[.int .i64 s.kind, .string s.label, .slice a.ao s.symbols.length a.cap, .slice b.ao s.proof.length b.cap, .string s.fin.file, .int .i64 s.fin.line, .int .i64 s.fin.col, .int .i64 s.til]

set_option maxHeartbeats 800000 in
theorem statement_any (b o k : Nat) (l : List St) (H : Nat → Hd) (w : World) (h : RecAt w b o l H) (hk : k < l.length) :
    Calls Tryz.prog 53 #[.pointer (some ⟨b, o, none⟩), .int .i64 k] w fun e w' => e = .returned (stVal l[k] (H (10 + 2 * k)) (H (11 + 2 * k))) ∧ Kept [] w w' := by
  have c := h.at
  have hbw := h.lt
  obtain ⟨g, e1, e2, e3, c0, c1, c2, c3, c4, c5, c6, c7⟩ := h.sts.stmt k hk
  have hgw := h.sts.own.lt (k := g) (by unfold Hd.blk; rw [e1]; rfl)
  rw [e1] at c
  unfold stVal
  clear h
  go_enter Tryz.func53, Tryz.ntmps53
  go_wp2
  exact bodyPost_ret (v := .agg #[.int .i64 l[k].kind, .string l[k].label, .slice (H (10 + 2 * k)).ao l[k].symbols.length (H (10 + 2 * k)).cap, .slice (H (11 + 2 * k)).ao l[k].proof.length (H (11 + 2 * k)).cap, .string l[k].fin.file, .int .i64 l[k].fin.line, .int .i64 l[k].fin.col, .int .i64 l[k].til])
    (by simp [results, Tryz.results53, go_sem]) rfl ⟨rfl, (Kept.refl _ _).alloc _⟩

/-- Is a statement active (of an assertion: there) at another? -/
def heldF (l : List St) (n a : Nat) : Bool := match l[n]? with | some s => decide (n < a) && (s.til == 0 || decide (a < s.til)) | none => false
theorem held_eq (l : List St) (n a : Nat) (h : n < l.length) : heldF l n a = (decide (n < a) && (l[n].til == 0 || decide (a < l[n].til))) := by
  unfold heldF; rw [List.getElem?_eq_getElem h]

set_option maxHeartbeats 800000 in
theorem holds_any (b o k a : Nat) (l : List St) (H : Nat → Hd) (w : World) (h : RecAt w b o l H) (hk : k < l.length) :
    Calls Tryz.prog 80 #[.pointer (some ⟨b, o, none⟩), .int .i64 k, .int .i64 a] w fun e w' => e = .returned (.bool (heldF l k a)) ∧ w' = w := by
  have c := h.at
  obtain ⟨g, e1, e2, e3, c0, c1, c2, c3, c4, c5, c6, c7⟩ := h.sts.stmt k hk
  clear c0 c1 c2 c3 c4 c5 c6
  rw [e1] at c
  have HE := (show Hid _ from held_eq l k a hk)
  generalize l[k].til = t at *
  clear h
  by_cases h1 : k < a
  · cases h2 : ((t : Int) == 0)
    · have h2' : (t == 0) = false := by cases t <;> simp at h2 ⊢
      have HT : Hid (heldF l k a = decide (a < t)) := by show _ = _; rw [HE.out, h2']; simp [h1]
      clear HE
      go_enter Tryz.func80, Tryz.ntmps80
      go_wp2
      go_ret
      exact ⟨ret_bool (by rw [HT.out]), rfl⟩
    · have h2' : (t == 0) = true := by cases t <;> simp at h2 ⊢ <;> omega
      have HT : Hid (heldF l k a = true) := by show _ = _; rw [HE.out, h2']; simp [h1]
      clear HE
      go_enter Tryz.func80, Tryz.ntmps80
      go_wp2
      go_ret
      exact ⟨ret_bool (by rw [HT.out]), rfl⟩
  · have HT : Hid (heldF l k a = false) := by show _ = _; rw [HE.out]; simp [h1]
    clear HE
    go_enter Tryz.func80, Tryz.ntmps80
    go_wp2
    go_ret
    exact ⟨ret_bool (by rw [HT.out]), rfl⟩

/-- Which statement a proof at a may name by this label. -/
def namesF (l : List St) (lab : ByteArray) (a n : Nat) : Bool := match l[n]? with | some s => (s.label.toList == lab.toList) && !(s.kind == 1) && heldF l n a | none => false
def findHF (l : List St) (lab : ByteArray) (a : Nat) : Option Nat := (List.range l.length).find? (namesF l lab a)
def optV : Option Nat → Int
  | some n => n
  | none => -1
theorem names_eq (l : List St) (lab : ByteArray) (a n : Nat) (h : n < l.length) : namesF l lab a n = ((l[n].label.toList == lab.toList) && !(l[n].kind == 1) && heldF l n a) := by
  unfold namesF; rw [List.getElem?_eq_getElem h]
theorem range_hit {p : Nat → Bool} {n k : Nat} (hk : k < n) (hp : p k = true) (hall : ∀ i, i < k → p i = false) : (List.range n).find? p = some k :=
  List.find?_range_eq_some.2 ⟨hp, by simpa using hk, fun j hj => by simp [hall j hj]⟩
theorem range_none {p : Nat → Bool} {n : Nat} (hall : ∀ i, i < n → p i = false) : (List.range n).find? p = none :=
  List.find?_eq_none.2 (fun i hi => by simp [hall i (by simpa using hi)])

set_option maxHeartbeats 1600000 in
theorem findHolding_any (b o a : Nat) (lab : ByteArray) (l : List St) (H : Nat → Hd) (w : World) (h : RecAt w b o l H) (hl : l.length ≤ 1073741824) :
    Calls Tryz.prog 105 #[.pointer (some ⟨b, o, none⟩), .string lab, .int .i64 a] w fun e w' => e = .returned (.int .i64 (optV (findHF l lab a))) ∧ w' = w := by
  have c := h.at
  go_enter Tryz.func105, Tryz.ntmps105
  go_wp2
  go_loopg [7] l.length (fun g i wr => ∃ k : Nat, k ≤ l.length ∧ g = l.length - k ∧ i = .int .i64 k ∧ Hid (∀ i, i < k → namesF l lab a i = false) ∧ wr = w)
  case atStart => exact ⟨0, by omega, by omega, rfl, fun i hi => by omega, rfl⟩
  case round =>
    obtain ⟨k, hk, hg, rfl, hall, rfl⟩ := hrel
    by_cases hlt : k < l.length
    · obtain ⟨g, e1, e2, e3, c0, c1, c2, c3, c4, c5, c6, c7⟩ := h.sts.stmt k hlt
      clear c2 c3 c4 c5 c6 c7
      rw [e1] at c
      have HN := (show Hid _ from names_eq l lab a k hlt)
      have HH : Hid (RecAt wr b o l H) := h
      generalize l[k].label = lb at *
      generalize l[k].kind = kd at *
      have next : Hid (namesF l lab a k = false → ∀ i, i < k + 1 → namesF l lab a i = false) := by
        intro hf i hi
        by_cases e : i = k
        · subst e; exact hf
        · exact hall.out i (by omega)
      cases hb : (lb.toList == lab.toList)
      · have HF : Hid (namesF l lab a k = false) := by show _ = _; rw [HN.out, hb]; simp
        clear HN h
        go_wp2
        go_roundg (l.length - (k + 1))
        case measure => omega
        case rel => exact ⟨k + 1, by omega, rfl, by go_num, next.out HF.out, rfl⟩
      · cases hd : (kd == 1)
        · have hd' : (kd != 1) = true := by simp [bne, hd]
          cases hh : heldF l k a
          · have HF : Hid (namesF l lab a k = false) := by show _ = _; rw [HN.out, hh]; simp
            clear HN h
            go_wp2_with (go_at_call 80; refine (holds_any b o k a l H _ HH.out hlt).mono ?_; rintro e w1 ⟨rfl, rfl⟩)
            go_roundg (l.length - (k + 1))
            case measure => omega
            case rel => exact ⟨k + 1, by omega, rfl, by go_num, next.out HF.out, rfl⟩
          · have HF : Hid (findHF l lab a = some k) := range_hit hlt (by rw [HN.out, hb, hd, hh]; rfl) hall.out
            clear HN h
            go_wp2_with (go_at_call 80; refine (holds_any b o k a l H _ HH.out hlt).mono ?_; rintro e w1 ⟨rfl, rfl⟩)
            go_ret
            exact ⟨ret_int (by rw [HF.out]; rfl), rfl⟩
        · have hd' : (kd != 1) = false := by simp [bne, hd]
          have HF : Hid (namesF l lab a k = false) := by show _ = _; rw [HN.out, hd]; simp
          clear HN h
          go_wp2
          go_roundg (l.length - (k + 1))
          case measure => omega
          case rel => exact ⟨k + 1, by omega, rfl, by go_num, next.out HF.out, rfl⟩
    · have HF : Hid (findHF l lab a = none) := range_none (fun i hi => hall.out i (by omega))
      clear h
      go_wp2
      go_ret
      exact ⟨ret_int (by rw [HF.out]; rfl), rfl⟩

end Go.Proofs.YtcipkfhpcbddiaaGreat

/- Package frames: the looks. Lists of texts that are only read. -/
namespace Go.Proofs.YtcipkfhpcbddiaaGreat
open Go.RowKit

/-- A list of texts that is only read: a slice of some array. -/
def View (w : World) (h : Hd) (l : List ByteArray) : Prop :=
  l = [] ∨ ∃ g off cur t, h.ao = some ⟨g, off, none⟩ ∧ w.heap[g]? = some (.cells cur t (0, 0)) ∧ (∀ j x, l[j]? = some x → cur[off + j]? = some (.string x)) ∧ l.length ≤ h.cap ∧ h.cap ≤ 9223372036854775807
theorem Owns.view {w : World} {h : Hd} {l : List ByteArray} (o : Owns w h (rowS l)) : View w h l := by
  rcases o.ways with ⟨_, h0, _⟩ | ⟨g, cur, e1, e2, e3, e4, e5, e6⟩
  · exact Or.inl (List.eq_nil_of_length_eq_zero h0)
  · refine Or.inr ⟨g, 0, cur, _, e1, e2, ?_, e3, by unfold maxLen at e4; exact e4⟩
    intro j x hj
    have hjl : j < l.length := (List.getElem?_eq_some_iff.1 hj).1
    have e6' : cur.toList.take (l.length * 1) = strs l := e6
    have : (strs l)[j]? = some (.string x) := by simp [strs, hj]
    rw [← e6', List.getElem?_take] at this
    rw [Nat.zero_add]
    simp at this
    exact this.2
theorem View.kept {w w' : World} {h : Hd} {l : List ByteArray} {S : List Nat} (v : View w h l) (k : Kept S w w') (hS : ∀ x, h.blk = some x → x ∉ S) : View w' h l := by
  rcases v with v | ⟨g, off, cur, t, e1, e2, e3⟩
  · exact Or.inl v
  · exact Or.inr ⟨g, off, cur, t, e1, k.get e2 (hS g (by unfold Hd.blk; rw [e1]; rfl)), e3⟩
theorem View.still {w w' : World} {h : Hd} {l : List ByteArray} (v : View w h l) (k : Kept [] w w') : View w' h l := v.kept k (by simp)

theorem ret_str {a b : ByteArray} (h : a = b) : Ending.returned (.string a) = .returned (.string b) := by rw [h]

set_option maxHeartbeats 400000 in
theorem fhas_any (hd : Hd) (l : List ByteArray) (x : ByteArray) (w : World) (hv : View w hd l) (hl : l.length ≤ 1073741824) :
    Calls Tryz.prog 102 #[.slice hd.ao l.length hd.cap, .string x] w fun e w' => e = .returned (.bool (hasF l x)) ∧ w' = w := by
  obtain ⟨ao, cap⟩ := hd
  rcases hv with rfl | ⟨g, off, cur, t, e1, e2, e3, e4, e5⟩
  · clear hl
    go_enter Tryz.func102, Tryz.ntmps102
    go_wp2
    refine wp_loop_rounds 1 ?_
    rw [rounds_succ]
    go_wp2
    go_ret
    exact ⟨rfl, rfl⟩
  · simp only at e1
    subst e1
    go_enter Tryz.func102, Tryz.ntmps102
    go_wp2
    go_loopg [5] l.length (fun g i wr => ∃ k : Nat, k ≤ l.length ∧ g = l.length - k ∧ i = .int .i64 k ∧ Hid (hasF l x = hasF (l.drop k) x) ∧ wr = w)
    case atStart => exact ⟨0, by omega, by omega, rfl, rfl, rfl⟩
    case round =>
      obtain ⟨k, hk, hg, rfl, hs, rfl⟩ := hrel
      by_cases hlt : k < l.length
      · have c1 : wr.cell? ⟨g, off + k, none⟩ = some (.string l[k]) := (cell_of e2 (off + k)).trans (e3 k l[k] (List.getElem?_eq_getElem hlt))
        cases hb : ((l[k]).toList == x.toList)
        · have HM : Hid (hasF l x = hasF (l.drop (k + 1)) x) := has_miss l x k hlt hs.out hb
          clear hs e3
          go_wp2
          go_roundg (l.length - (k + 1))
          case measure => omega
          case rel => exact ⟨k + 1, by omega, rfl, by go_num, HM, rfl⟩
        · have HM : Hid (hasF l x = true) := has_hit l x k hlt hs.out hb
          clear hs e3
          go_wp2
          go_ret
          exact ⟨ret_bool HM.out.symm, rfl⟩
      · have HM : Hid (hasF l x = false) := has_over l x k hlt hs.out
        clear hs e3
        go_wp2
        go_ret
        exact ⟨ret_bool HM.out.symm, rfl⟩

/-- The first symbol; what a $f types. -/
def typecodeF (s : St) : ByteArray := s.symbols.getD 0 ⟨#[]⟩
def variableF (s : St) : ByteArray := if (s.kind == 2) = true ∧ 2 ≤ s.symbols.length then s.symbols.getD 1 ⟨#[]⟩ else ⟨#[]⟩

theorem getD_at (l : List ByteArray) (k : Nat) (h : k < l.length) : l.getD k ⟨#[]⟩ = l[k] := by rw [List.getD_eq_getElem?_getD, List.getElem?_eq_getElem h]; rfl

set_option maxHeartbeats 800000 in
theorem typecode_any (s : St) (ha hb : Hd) (w : World) (hv : View w ha s.symbols) (hl : s.symbols.length ≤ 1073741824) :
    Calls Tryz.prog 144 #[stVal s ha hb] w fun e w' => e = .returned (.string (typecodeF s)) ∧ Kept [] w w' := by
  unfold stVal
  obtain ⟨ao, cap⟩ := ha
  rcases hv with e0 | ⟨g, off, cur, t, e1, e2, e3, e4, e5⟩
  · have HT : Hid (typecodeF s = ⟨#[]⟩) := by show _ = _; unfold typecodeF; rw [e0]; rfl
    rw [e0]
    simp only [List.length_nil]
    clear hl e0
    go_enter Tryz.func144, Tryz.ntmps144
    go_wp2
    go_ret
    exact ⟨ret_str HT.out.symm, (Kept.refl _ _).alloc _⟩
  · simp only at e1
    subst e1
    by_cases hz : s.symbols.length = 0
    · have hz1 : ((s.symbols.length : Int) == 0) = true := by simp [hz]
      have HT : Hid (typecodeF s = ⟨#[]⟩) := by show _ = _; unfold typecodeF; rw [List.eq_nil_of_length_eq_zero hz]; rfl
      clear hz
      go_enter Tryz.func144, Tryz.ntmps144
      go_wp2
      go_ret
      exact ⟨ret_str HT.out.symm, (Kept.refl _ _).alloc _⟩
    · have hz1 : ((s.symbols.length : Int) == 0) = false := beq_eq_false_iff_ne.2 (by omega)
      have hz2 : 0 < s.symbols.length := by omega
      have HT : Hid (typecodeF s = s.symbols[0]) := getD_at _ _ hz2
      have c1 : w.cell? ⟨g, off, none⟩ = some (.string s.symbols[0]) := (cell_of e2 off).trans (e3 0 _ (List.getElem?_eq_getElem hz2))
      have hgw := lt_of_get e2
      clear e3 hz
      go_enter Tryz.func144, Tryz.ntmps144
      go_wp2
      go_ret
      exact ⟨ret_str HT.out.symm, (Kept.refl _ _).alloc _⟩

set_option maxHeartbeats 800000 in
theorem variable_any (s : St) (ha hb : Hd) (w : World) (hv : View w ha s.symbols) (hl : s.symbols.length ≤ 1073741824) :
    Calls Tryz.prog 89 #[stVal s ha hb] w fun e w' => e = .returned (.string (variableF s)) ∧ Kept [] w w' := by
  unfold stVal
  cases k2 : (s.kind == 2)
  · have k2' : (s.kind != 2) = true := by simp [bne, k2]
    have HT : Hid (variableF s = ⟨#[]⟩) := by show _ = _; unfold variableF; rw [k2]; simp
    go_enter Tryz.func89, Tryz.ntmps89
    go_wp2
    go_ret
    exact ⟨ret_str HT.out.symm, (Kept.refl _ _).alloc _⟩
  · have k2' : (s.kind != 2) = false := by simp [bne, k2]
    by_cases hz : s.symbols.length < 2
    · have HT : Hid (variableF s = ⟨#[]⟩) := by show _ = _; unfold variableF; rw [if_neg (by omega)]
      go_enter Tryz.func89, Tryz.ntmps89
      go_wp2
      go_ret
      exact ⟨ret_str HT.out.symm, (Kept.refl _ _).alloc _⟩
    · have hz2 : 1 < s.symbols.length := by omega
      obtain ⟨ao, cap⟩ := ha
      rcases hv with e0 | ⟨g, off, cur, t, e1, e2, e3, e4, e5⟩
      · rw [e0] at hz2; simp at hz2
      · simp only at e1
        subst e1
        have HT : Hid (variableF s = s.symbols[1]) := by show _ = _; unfold variableF; rw [if_pos ⟨k2, by omega⟩]; exact getD_at _ _ hz2
        have c1 : w.cell? ⟨g, off + 1, none⟩ = some (.string s.symbols[1]) := (cell_of e2 (off + 1)).trans (e3 1 _ (List.getElem?_eq_getElem hz2))
        have hgw := lt_of_get e2
        clear e3
        go_enter Tryz.func89, Tryz.ntmps89
        go_wp2
        go_ret
        exact ⟨ret_str HT.out.symm, (Kept.refl _ _).alloc _⟩

def mandF (s : St) (syms : List ByteArray) : Bool := if (s.kind == 2) = true then hasF syms (variableF s) else (s.kind == 3)

set_option maxHeartbeats 800000 in
theorem isMandatory_any (s : St) (ha hb hd : Hd) (l : List ByteArray) (w : World) (hv : View w ha s.symbols) (hvl : View w hd l) (hl : s.symbols.length ≤ 1073741824) (hl2 : l.length ≤ 1073741824) :
    Calls Tryz.prog 81 #[stVal s ha hb, .slice hd.ao l.length hd.cap] w fun e w' => e = .returned (.bool (mandF s l)) ∧ Kept [] w w' := by
  have VA := fun (w' : World) (hv' : View w' ha s.symbols) => variable_any s ha hb w' hv' hl
  have HVA := (show Hid _ from VA)
  unfold stVal at HVA ⊢
  clear VA
  cases k2 : (s.kind == 2)
  · have HT : Hid (mandF s l = (s.kind == 3)) := by show _ = _; unfold mandF; rw [k2]; simp
    go_enter Tryz.func81, Tryz.ntmps81
    go_wp2
    go_ret
    exact ⟨ret_bool (by rw [HT.out]), (Kept.refl _ _).alloc _⟩
  · have HT : Hid (mandF s l = hasF l (variableF s)) := by show _ = _; unfold mandF; rw [k2]; simp
    go_enter Tryz.func81, Tryz.ntmps81
    go_wp2_with fail
    refine (HVA.out _ (by exact hv.still ((Kept.refl [] _).alloc _))).mono ?_
    rintro e w2 ⟨rfl, hk2⟩
    have hk := ((Kept.refl [] w).alloc _).trans hk2
    go_wp2_with fail
    refine (fhas_any hd l _ _ (by exact hvl.still hk) hl2).mono ?_
    rintro e w3 ⟨rfl, rfl⟩
    go_wp2
    go_ret
    exact ⟨ret_bool (by rw [HT.out]), hk⟩

end Go.Proofs.YtcipkfhpcbddiaaGreat

/- Package frames: which symbols count, which hypotheses are mandatory. -/
namespace Go.Proofs.YtcipkfhpcbddiaaGreat
open Go.RowKit

/-- A record that can be read from data: each statement has a symbol; nothing is long. -/
structure RecOk (l : List St) : Prop where
  len : l.length ≤ 10000
  pos : ∀ i (h : i < l.length), 0 < l[i].symbols.length
  syms : ∀ i (h : i < l.length), l[i].symbols.length ≤ 10000
  prfs : ∀ i (h : i < l.length), l[i].proof.length ≤ 10000

theorem Kept.grown {w wr w1 : World} {b : Option Nat} (K : Kept [] w wr) (g : wr.grownBy w1 b) (hb : ∀ k, b = some k → w.heap.size ≤ k) : Kept [] w w1 :=
  ⟨g.os.trans K.os, g.tape.trans K.tape, g.output.trans K.output, Nat.le_trans K.size g.size, fun k hk _ => (g.block k (Nat.lt_of_lt_of_le hk K.size) (fun e => by have := hb k e.symm; omega)).trans (K.block k hk (by simp))⟩

theorem field_syms (w : World) (k l c u : Int) (lab f : ByteArray) (a1 a2 : Option Addr) (n1 c1 n2 c2 : Nat) :
    (Instr.field 119 (.agg #[.int .i64 k, .string lab, .slice a1 n1 c1, .slice a2 n2 c2, .string f, .int .i64 l, .int .i64 c, .int .i64 u]) 2).run Tryz.prog w = .ok (.slice a1 n1 c1) w := by kernel_rfl
attribute [local go_sem] field_syms

/-- The $e that are active at a. -/
def essF (l : List St) (a n : Nat) : Bool := match l[n]? with | some s => (s.kind == 3) && heldF l n a | none => false
theorem ess_eq (l : List St) (a n : Nat) (h : n < l.length) : essF l a n = ((l[n].kind == 3) && heldF l n a) := by
  unfold essF; rw [List.getElem?_eq_getElem h]
def symsTo (l : List St) (a k : Nat) : List ByteArray := symsAt l a ++ ((List.range k).filter (essF l a)).flatMap (symsAt l)
def symsOfF (l : List St) (a : Nat) : List ByteArray := symsTo l a l.length
theorem symsAt_eq (l : List St) (n : Nat) (h : n < l.length) : symsAt l n = l[n].symbols := by
  unfold symsAt; rw [List.getElem?_eq_getElem h]
theorem symsTo_zero (l : List St) (a : Nat) : symsTo l a 0 = symsAt l a := by unfold symsTo; rw [List.range_zero]; rw [List.filter_nil, List.flatMap_nil, List.append_nil]
theorem symsTo_yes (l : List St) (a k : Nat) (h : essF l a k = true) : symsTo l a (k + 1) = symsTo l a k ++ symsAt l k := by
  unfold symsTo; rw [List.range_succ, List.filter_append]; simp [h]
theorem symsTo_no (l : List St) (a k : Nat) (h : essF l a k = false) : symsTo l a (k + 1) = symsTo l a k := by
  unfold symsTo; rw [List.range_succ, List.filter_append]; simp [h]
theorem symsTo_len (l : List St) (a k : Nat) (ok : RecOk l) (ha : a < l.length) (hk : k ≤ l.length) : (symsTo l a k).length ≤ 10000 + k * 10000 := by
  induction k with
  | zero =>
    have := ok.syms a ha
    have e := congrArg List.length (symsTo_zero l a)
    have e2 := congrArg List.length (symsAt_eq l a ha)
    omega
  | succ k ih =>
    have := ih (by omega)
    cases h : essF l a k with
    | true =>
      have e := congrArg List.length (symsTo_yes l a k h)
      have e2 := congrArg List.length (symsAt_eq l k (by omega))
      have := ok.syms k (by omega)
      rw [List.length_append] at e
      omega
    | false =>
      have e := congrArg List.length (symsTo_no l a k h)
      omega

set_option maxHeartbeats 2000000 in
set_option maxRecDepth 100000 in
theorem symbolsOf_any (b o a : Nat) (l : List St) (H : Nat → Hd) (w : World) (h : RecAt w b o l H) (ha : a < l.length) (ok : RecOk l) :
    Calls Tryz.prog 79 #[.pointer (some ⟨b, o, none⟩), .int .i64 a] w fun e w' => ∃ hd : Hd, e = .returned (.slice hd.ao (symsOfF l a).length hd.cap) ∧ Owns w' hd (rowS (symsOfF l a)) ∧ (∀ k, hd.blk = some k → w.heap.size ≤ k) ∧ Kept [] w w' := by
  obtain ⟨i0, hi, hz0, hz1, hz2⟩ := info_parts infoS
  have hlen := ok.len
  have hbw := h.lt
  go_enter Tryz.func79, Tryz.ntmps79
  go_wp2_with fail
  refine (statement_any b o a l H _ h ha).mono ?_
  rintro e w1 ⟨rfl, hk1⟩
  have h1 := h.still hk1
  have O1 := h1.sts.syms a l[a] (List.getElem?_eq_getElem ha)
  have hp := ok.pos a ha
  have hm := ok.syms a ha
  rcases O1.ways with ⟨_, h0, _⟩ | ⟨g1, cur1, e1, -⟩
  · have : l[a].symbols.length = 0 := h0
    omega
  · unfold stVal
    rw [e1]
    have hsrc : Hid (∀ j u, (strs l[a].symbols)[j]? = some u → w1.cell? ((⟨g1, 0, none⟩ : Addr).add j) = some u) := fun j u hj => by rw [addr_add]; exact O1.cell e1 j u hj
    have ES : Hid (symsTo l a 0 = l[a].symbols) := by show _ = _; rw [symsTo_zero]; exact symsAt_eq l a ha
    have HO : Hid (Owns w1 ⟨none, 0⟩ (rowS [])) := World.ownsRow_nil _ _ _ _
    clear O1
    go_wp2_with (at_builtin; refine wpList_append_row _ rfl (.tmp 8) (.tmp 12) 22 rfl i0 (.string ⟨#[]⟩) 16 ⟨none, 0⟩ (rowS []) Tryz.underlying22 hi hz0 hz1 hz2 rfl Nat.one_pos rfl HO.out ⟨g1, 0, none⟩ l[a].symbols.length (H (10 + 2 * a)).cap (strs l[a].symbols) rfl ?c0 hsrc.out (strs_one _) hp ?c3 ?c4 ?_)
    case c0 => simp [strs, rowS]
    case c3 => simp only [rowS, List.length_nil]; unfold maxLen; omega
    case c4 => simp only [rowS, List.length_nil]; omega
    intro g cap' w2 hw2 hgr hfresh
    rw [rowS_more [] l[a].symbols, List.nil_append, ← ES.out] at hw2
    have hK2 : Kept [] w w2 := hk1.grown hgr (by simp [Hd.blk])
    have hg2 : w.heap.size ≤ g := by
      rcases hfresh with e | e
      · simp [Hd.blk] at e
      · exact Nat.le_trans hk1.size e
    have hEl : Hid ((rowS []).n + l[a].symbols.length = (symsTo l a 0).length) := by show _ = _; rw [ES.out]; simp [rowS]
    rw [hEl.out]
    clear hsrc HO hgr hfresh h1 hk1 e1 hp hm hEl ES
    go_wp2
    go_loopg [5, 6] l.length (fun gk sv i wr => ∃ (k : Nat) (hd : Hd), k ≤ l.length ∧ gk = l.length - k ∧ i = .int .i64 k ∧ sv = .slice hd.ao (symsTo l a k).length hd.cap ∧ Owns wr hd (rowS (symsTo l a k)) ∧ (∀ x, hd.blk = some x → w.heap.size ≤ x) ∧ Kept [] w wr)
    case atStart => exact ⟨0, ⟨some ⟨g, 0, none⟩, cap'⟩, by omega, by omega, rfl, rfl, hw2, by intro x hx; simp [Hd.blk] at hx; omega, hK2⟩
    case round =>
      obtain ⟨k, hd, hk, hg, rfl, rfl, hO, hN, hK⟩ := hrel
      have hr := h.still hK
      clear hw2 hK2
      by_cases hlt : k < l.length
      · have hsl := symsTo_len l a k ok ha (by omega)
        have HES := (show Hid _ from ess_eq l a k hlt)
        have hsk := ok.syms k hlt
        have hpk := ok.pos k hlt
        have OK' := hr.sts.syms k l[k] (List.getElem?_eq_getElem hlt)
        rcases OK'.ways with ⟨_, h0, _⟩ | ⟨gk', curk, ek, -⟩
        · have : l[k].symbols.length = 0 := h0
          omega
        · have SY : Hid (symsAt l k = l[k].symbols) := symsAt_eq l k hlt
          cases hkd : (l[k].kind == 3)
          · have HT : Hid (symsTo l a (k + 1) = symsTo l a k) := symsTo_no l a k (by rw [HES.out, hkd]; rfl)
            clear HES OK'
            go_wp2_with (first | (go_at_call 45; refine (count_any b o l H _ (by exact hr)).mono ?_; rintro e w3 ⟨rfl, rfl⟩) | (go_at_call 53; refine (statement_any b o k l H _ (by exact hr) hlt).mono ?_; rintro e w3 ⟨rfl, hk3⟩; unfold stVal))
            go_roundg (l.length - (k + 1))
            case measure => omega
            case rel => exact ⟨k + 1, hd, by omega, rfl, by go_num, by rw [HT.out], by rw [HT.out]; exact hO.moved (fun x hx => (hk3.trans ((Kept.refl [] _).alloc _)).block x (hO.lt hx) (by simp)), hN, (hK.trans hk3).alloc _⟩
          · go_wp2_with (first | (go_at_call 45; refine (count_any b o l H _ (by exact hr)).mono ?_; rintro e wc ⟨rfl, rfl⟩) | (go_at_call 53; refine (statement_any b o k l H _ (by exact hr) hlt).mono ?_; rintro e w3 ⟨rfl, hk3⟩; unfold stVal))
            obtain ⟨W4, hW4⟩ : ∃ W4, W4 = w3.alloc (.cells #[.int .i64 l[k].kind, .string l[k].label, .slice (some ⟨gk', 0, none⟩) l[k].symbols.length (H (10 + 2 * k)).cap, .slice (H (11 + 2 * k)).ao l[k].proof.length (H (11 + 2 * k)).cap, .string l[k].fin.file, .int .i64 l[k].fin.line, .int .i64 l[k].fin.col, .int .i64 l[k].til] 119) := ⟨_, rfl⟩
            rw [← hW4]
            have k4 : Kept [] wc W4 := by rw [hW4]; exact hk3.alloc _
            have B4 : W4.heap[w3.heap.size]? = some (.cells #[.int .i64 l[k].kind, .string l[k].label, .slice (some ⟨gk', 0, none⟩) l[k].symbols.length (H (10 + 2 * k)).cap, .slice (H (11 + 2 * k)).ao l[k].proof.length (H (11 + 2 * k)).cap, .string l[k].fin.file, .int .i64 l[k].fin.line, .int .i64 l[k].fin.col, .int .i64 l[k].til] 119 (0, 0)) := by rw [hW4]; exact heap_alloc_new _ _
            have q2 : W4.cell? ⟨w3.heap.size, 2, none⟩ = some (.slice (some ⟨gk', 0, none⟩) l[k].symbols.length (H (10 + 2 * k)).cap) := by rw [cell_of B4]; rfl
            have hr4 := hr.still k4
            have hO4 : Owns W4 hd (rowS (symsTo l a k)) := hO.moved (fun x hx => k4.block x (hO.lt hx) (by simp))
            have OK4 := hr4.sts.syms k l[k] (List.getElem?_eq_getElem hlt)
            have hK4 := hK.trans k4
            have hsrc : Hid (∀ j u, (strs l[k].symbols)[j]? = some u → W4.cell? ((⟨gk', 0, none⟩ : Addr).add j) = some u) := fun j u hj => by rw [addr_add]; exact OK4.cell ek j u hj
            clear hW4 hk3 k4 B4 hr hO OK' OK4 hK
            cases hh : heldF l k a
            · have HT : Hid (symsTo l a (k + 1) = symsTo l a k) := symsTo_no l a k (by rw [HES.out, hh]; simp)
              clear HES
              go_wp2_with (go_at_call 80; refine (holds_any b o k a l H _ (by exact hr4) hlt).mono ?_; rintro e w5 ⟨rfl, rfl⟩)
              go_roundg (l.length - (k + 1))
              case measure => omega
              case rel => exact ⟨k + 1, hd, by omega, rfl, by go_num, by rw [HT.out], by rw [HT.out]; exact hO4, hN, hK4⟩
            · have HT : Hid (symsTo l a (k + 1) = symsTo l a k ++ l[k].symbols) := by show _ = _; rw [symsTo_yes l a k (by rw [HES.out, hkd, hh]; rfl), SY.out]
              clear HES SY
              go_wp2_with (first | (go_at_call 80; refine (holds_any b o k a l H _ (by exact hr4) hlt).mono ?_; rintro e w5 ⟨rfl, rfl⟩) | (at_builtin; refine wpList_append_row _ rfl (.tmp 32) (.tmp 34) 22 rfl i0 (.string ⟨#[]⟩) 16 hd (rowS (symsTo l a k)) Tryz.underlying22 hi hz0 hz1 hz2 rfl Nat.one_pos rfl (by exact hO4) ⟨gk', 0, none⟩ l[k].symbols.length (H (10 + 2 * k)).cap (strs l[k].symbols) rfl ?d0 hsrc.out (strs_one _) hpk ?d3 ?d4 ?_))
              case d0 => simp [strs, rowS]
              case d3 => simp only [rowS]; unfold maxLen; omega
              case d4 => simp only [rowS]; omega
              intro g5 cap5 w5 hw5 hgr5 hfresh5
              rw [rowS_more (symsTo l a k) l[k].symbols, ← HT.out] at hw5
              have hK5 := hK4.grown hgr5 hN
              have hg5 : w.heap.size ≤ g5 := by
                rcases hfresh5 with e | e
                · exact hN g5 e
                · exact Nat.le_trans hK4.size e
              have hEl : Hid ((rowS (symsTo l a k)).n + l[k].symbols.length = (symsTo l a (k + 1)).length) := by show _ = _; rw [HT.out]; simp [rowS]
              rw [hEl.out]
              clear hsrc hgr5 hfresh5 q2 hO4
              go_wp2
              go_roundg (l.length - (k + 1))
              case measure => omega
              case rel => exact ⟨k + 1, ⟨some ⟨g5, 0, none⟩, cap5⟩, by omega, rfl, by go_num, rfl, hw5, by intro x hx; simp [Hd.blk] at hx; omega, hK5⟩
      · have e : k = l.length := by omega
        subst e
        go_wp2_with (go_at_call 45; refine (count_any b o l H _ (by exact hr)).mono ?_; rintro e w3 ⟨rfl, rfl⟩)
        go_ret
        exact ⟨hd, rfl, hO, hN, hK⟩

end Go.Proofs.YtcipkfhpcbddiaaGreat

/- Package frames: Hypotheses. -/
namespace Go.Proofs.YtcipkfhpcbddiaaGreat
open Go.RowKit

def mandAt (l : List St) (syms : List ByteArray) (a n : Nat) : Bool := match l[n]? with | some s => heldF l n a && mandF s syms | none => false
theorem mandAt_eq (l : List St) (syms : List ByteArray) (a n : Nat) (h : n < l.length) : mandAt l syms a n = (heldF l n a && mandF l[n] syms) := by
  unfold mandAt; rw [List.getElem?_eq_getElem h]
def hypsTo (l : List St) (a k : Nat) : List Nat := (List.range k).filter (mandAt l (symsOfF l a) a)
/-- The mandatory hypotheses of a, by their numbers. -/
def hypsF (l : List St) (a : Nat) : List Nat := hypsTo l a l.length
theorem hypsTo_yes (l : List St) (a k : Nat) (h : mandAt l (symsOfF l a) a k = true) : hypsTo l a (k + 1) = hypsTo l a k ++ [k] := by
  unfold hypsTo; rw [List.range_succ, List.filter_append]; simp [h]
theorem hypsTo_no (l : List St) (a k : Nat) (h : mandAt l (symsOfF l a) a k = false) : hypsTo l a (k + 1) = hypsTo l a k := by
  unfold hypsTo; rw [List.range_succ, List.filter_append]; simp [h]
theorem hypsTo_len (l : List St) (a k : Nat) : (hypsTo l a k).length ≤ k := by
  unfold hypsTo
  have := List.length_filter_le (mandAt l (symsOfF l a) a) (List.range k)
  simpa using this
theorem symsOf_len (l : List St) (a : Nat) (ok : RecOk l) (ha : a < l.length) : (symsOfF l a).length ≤ 1073741824 := by
  have h1 := symsTo_len l a l.length ok ha (Nat.le_refl _)
  have h2 := ok.len
  have h3 : l.length * 10000 ≤ 10000 * 10000 := Nat.mul_le_mul_right _ h2
  unfold symsOfF
  omega

set_option maxHeartbeats 2000000 in
set_option maxRecDepth 100000 in
theorem hypotheses_any (b o a : Nat) (l : List St) (H : Nat → Hd) (w : World) (h : RecAt w b o l H) (ha : a < l.length) (ok : RecOk l) :
    Calls Tryz.prog 66 #[.pointer (some ⟨b, o, none⟩), .int .i64 a] w fun e w' => ∃ hd : Hd, e = .returned (.slice hd.ao (hypsF l a).length hd.cap) ∧ Owns w' hd (rowN (hypsF l a)) ∧ (∀ k, hd.blk = some k → w.heap.size ≤ k) ∧ Kept [] w w' := by
  obtain ⟨i0, hi, hz0, hz1, hz2⟩ := info_parts infoN
  have hlen := ok.len
  have hbw := h.lt
  have hsyl := symsOf_len l a ok ha
  go_enter Tryz.func66, Tryz.ntmps66
  go_wp2_with fail
  refine (symbolsOf_any b o a l H _ h ha ok).mono ?_
  rintro e w1 ⟨hy, rfl, hOy, hNy, hk1⟩
  go_wp2
  go_loopg [5, 7] l.length (fun gk sv i wr => ∃ (k : Nat) (hd : Hd), k ≤ l.length ∧ gk = l.length - k ∧ i = .int .i64 k ∧ sv = .slice hd.ao (hypsTo l a k).length hd.cap ∧ Owns wr hd (rowN (hypsTo l a k)) ∧ (∀ x, hd.blk = some x → w1.heap.size ≤ x) ∧ Kept [] w1 wr)
  case atStart => exact ⟨0, ⟨none, 0⟩, by omega, by omega, rfl, rfl, World.ownsRow_nil _ _ _ _, by intro x hx; simp [Hd.blk] at hx, Kept.refl _ _⟩
  case round =>
    obtain ⟨k, hd, hk, hg, rfl, rfl, hO, hN, hK⟩ := hrel
    have hr := (h.still hk1).still hK
    have hVy : View wr hy (symsOfF l a) := (hOy.view).still hK
    have hhl := hypsTo_len l a k
    by_cases hlt : k < l.length
    · have HM := (show Hid _ from mandAt_eq l (symsOfF l a) a k hlt)
      have hsk := ok.syms k hlt
      have hVk := (hr.sts.syms k l[k] (List.getElem?_eq_getElem hlt)).view
      cases hh : heldF l k a
      · have HT : Hid (hypsTo l a (k + 1) = hypsTo l a k) := hypsTo_no l a k (by rw [HM.out, hh]; rfl)
        clear HM hVk hVy
        go_wp2_with (first | (go_at_call 45; refine (count_any b o l H _ (by exact hr)).mono ?_; rintro e wc ⟨rfl, rfl⟩) | (go_at_call 80; refine (holds_any b o k a l H _ (by exact hr) hlt).mono ?_; rintro e wd ⟨rfl, rfl⟩))
        go_roundg (l.length - (k + 1))
        case measure => omega
        case rel => exact ⟨k + 1, hd, by omega, rfl, by go_num, by rw [HT.out], by rw [HT.out]; exact hO, hN, hK⟩
      · have ME := fun (w' : World) (v1 : View w' (H (10 + 2 * k)) l[k].symbols) (v2 : View w' hy (symsOfF l a)) => isMandatory_any l[k] (H (10 + 2 * k)) (H (11 + 2 * k)) hy (symsOfF l a) w' v1 v2 (by omega) hsyl
        have HME := (show Hid _ from ME)
        clear ME
        cases hm : mandF l[k] (symsOfF l a)
        · have HT : Hid (hypsTo l a (k + 1) = hypsTo l a k) := hypsTo_no l a k (by rw [HM.out, hm]; simp)
          rw [hm] at HME
          clear HM
          go_wp2_with (first | (go_at_call 45; refine (count_any b o l H _ (by exact hr)).mono ?_; rintro e wc ⟨rfl, rfl⟩) | (go_at_call 80; refine (holds_any b o k a l H _ (by exact hr) hlt).mono ?_; rintro e wd ⟨rfl, rfl⟩) | (go_at_call 53; refine (statement_any b o k l H _ (by exact hr) hlt).mono ?_; rintro e w3 ⟨rfl, hk3⟩) | (go_at_call 81; refine (HME.out _ (by exact hVk.still hk3) (by exact hVy.still hk3)).mono ?_; rintro e w4 ⟨rfl, hk4⟩))
          go_roundg (l.length - (k + 1))
          case measure => omega
          case rel => exact ⟨k + 1, hd, by omega, rfl, by go_num, by rw [HT.out], by rw [HT.out]; exact hO.moved (fun x hx => (hk3.trans hk4).block x (hO.lt hx) (by simp)), hN, (hK.trans hk3).trans hk4⟩
        · have HT : Hid (hypsTo l a (k + 1) = hypsTo l a k ++ [k]) := hypsTo_yes l a k (by rw [HM.out, hh, hm]; rfl)
          rw [hm] at HME
          clear HM
          go_wp2_with (first | (go_at_call 45; refine (count_any b o l H _ (by exact hr)).mono ?_; rintro e wc ⟨rfl, rfl⟩) | (go_at_call 80; refine (holds_any b o k a l H _ (by exact hr) hlt).mono ?_; rintro e wd ⟨rfl, rfl⟩) | (go_at_call 53; refine (statement_any b o k l H _ (by exact hr) hlt).mono ?_; rintro e w3 ⟨rfl, hk3⟩) | (go_at_call 81; refine (HME.out _ (by exact hVk.still hk3) (by exact hVy.still hk3)).mono ?_; rintro e w4 ⟨rfl, hk4⟩; have hO4 := hO.moved (fun x hx => ((hk3.trans hk4).alloc (.cells #[.int .i64 k] 3)).block x (hO.lt hx) (by simp))) | (at_builtin; refine wpList_append_row _ rfl (.tmp 28) (.tmp 30) 45 rfl i0 (.int .i64 0) 8 hd (rowN (hypsTo l a k)) Tryz.underlying45 hi hz0 hz1 hz2 rfl Nat.one_pos rfl (by exact hO4) ⟨_, 0, none⟩ 1 1 [.int .i64 k] rfl rfl ?d1 ?d2 Nat.one_pos ?d3 ?d4 ?_))
          case d1 => intro j u hj; match j, hj with | 0, hj => simp at hj; subst hj; simp [Addr.add]
          case d2 => intro u hu; simp at hu; subst hu; rfl
          case d3 => simp only [rowN]; unfold maxLen; omega
          case d4 => simp only [rowN]; omega
          intro g5 cap5 w5 hw5 hgr5 hfresh5
          rw [rowN_snoc (hypsTo l a k) k, ← HT.out] at hw5
          have hK4 := ((hK.trans hk3).trans hk4).alloc (.cells #[.int .i64 k] 3)
          have hK5 := hK4.grown hgr5 hN
          have hg5 : w1.heap.size ≤ g5 := by
            rcases hfresh5 with e | e
            · exact hN g5 e
            · have := hK4.size; simp at e this; omega
          have hEl : Hid ((rowN (hypsTo l a k)).n + 1 = (hypsTo l a (k + 1)).length) := by show _ = _; rw [HT.out]; simp [rowN]
          rw [hEl.out]
          clear hgr5 hfresh5 hO4
          go_wp2
          go_roundg (l.length - (k + 1))
          case measure => omega
          case rel => exact ⟨k + 1, ⟨some ⟨g5, 0, none⟩, cap5⟩, by omega, rfl, by go_num, rfl, hw5, by intro x hx; simp [Hd.blk] at hx; omega, hK5⟩
    · have e : k = l.length := by omega
      subst e
      have hK' := hk1.trans hK
      have hs1 := hk1.size
      go_wp2_with (go_at_call 45; refine (count_any b o l H _ (by exact hr)).mono ?_; rintro e w3 ⟨rfl, rfl⟩)
      go_ret
      exact ⟨hd, rfl, hO, fun x hx => Nat.le_trans hs1 (hN x hx), hK'⟩

end Go.Proofs.YtcipkfhpcbddiaaGreat

/- Package frames: AllHypotheses. -/
namespace Go.Proofs.YtcipkfhpcbddiaaGreat
open Go.RowKit

theorem infoL : (Tryz.prog.info? 45).map (fun i => (i.zero, i.size, i.bytes)) = some (some (.slice none 0 0), 1, 24) := by kernel_rfl
theorem made_at (v : Value) (n i : Nat) (h : i < n) : (madeCells #[v] n)[i]? = some v := by
  simp [madeCells, h, Nat.mod_one]

def isAt (l : List St) (n : Nat) : Bool := match l[n]? with | some s => isA s.kind | none => false
theorem isAt_eq (l : List St) (n : Nat) (h : n < l.length) : isAt l n = isA l[n].kind := by
  unfold isAt; rw [List.getElem?_eq_getElem h]
/-- The mandatory hypotheses of each assertion below k; of the others none. -/
def hypsA (l : List St) (k n : Nat) : List Nat := if n < k ∧ isAt l n = true then hypsF l n else []
structure AllIs (w : World) (g : Nat) (l : List St) (k : Nat) (K : Nat → Hd) : Prop where
  arr : ∃ arr, w.heap[g]? = some (.cells arr 45 (0, 0)) ∧ arr.size = l.length ∧ ∀ n, n < l.length → arr[n]? = some (.slice (K n).ao (hypsA l k n).length (K n).cap)
  own : ∀ n, n < l.length → Owns w (K n) (rowN (hypsA l k n))
  off : ∀ n, (K n).blk ≠ some g
theorem AllIs.kept {w w' : World} {g : Nat} {l : List St} {k : Nat} {K : Nat → Hd} {S : List Nat} (h : AllIs w g l k K) (q : Kept S w w') (hg : g ∉ S) (hK : ∀ n x, (K n).blk = some x → x ∉ S) : AllIs w' g l k K := by
  obtain ⟨arr, h1, h2, h3⟩ := h.arr
  exact ⟨⟨arr, q.get h1 hg, h2, h3⟩, fun n hn => (h.own n hn).moved (fun x hx => q.block x ((h.own n hn).lt hx) (hK n x hx)), h.off⟩
theorem AllIs.still {w w' : World} {g : Nat} {l : List St} {k : Nat} {K : Nat → Hd} (h : AllIs w g l k K) (q : Kept [] w w') : AllIs w' g l k K := h.kept q (by simp) (by simp)
theorem AllIs.cell {w : World} {g : Nat} {l : List St} {k : Nat} {K : Nat → Hd} (h : AllIs w g l k K) (n : Nat) (hn : n < l.length) : w.cell? ⟨g, n, none⟩ = some (.slice (K n).ao (hypsA l k n).length (K n).cap) := by
  obtain ⟨arr, h1, h2, h3⟩ := h.arr
  rw [cell_of h1]; exact h3 n hn
theorem AllIs.free {w : World} {g : Nat} {l : List St} {k : Nat} {K : Nat → Hd} (h : AllIs w g l k K) (n : Nat) : w.frozen? ⟨g, n, none⟩ = false := by
  obtain ⟨arr, h1, h2, h3⟩ := h.arr
  exact free_of h1 n
theorem AllIs.lt {w : World} {g : Nat} {l : List St} {k : Nat} {K : Nat → Hd} (h : AllIs w g l k K) : g < w.heap.size := by
  obtain ⟨arr, h1, h2, h3⟩ := h.arr
  exact lt_of_get h1
theorem AllIs.skip {w : World} {g : Nat} {l : List St} {k : Nat} {K : Nat → Hd} (h : AllIs w g l k K) (hk : isAt l k = false) : AllIs w g l (k + 1) K := by
  have e : ∀ n, hypsA l (k + 1) n = hypsA l k n := by
    intro n
    unfold hypsA
    by_cases en : n = k
    · subst en; rw [if_neg (by rw [hk]; simp), if_neg (by rw [hk]; simp)]
    · have : (n < k + 1 ∧ isAt l n = true) ↔ (n < k ∧ isAt l n = true) := and_congr_left (fun _ => by omega)
      simp only [this]
  obtain ⟨arr, h1, h2, h3⟩ := h.arr
  exact ⟨⟨arr, h1, h2, fun n hn => by rw [e]; exact h3 n hn⟩, fun n hn => by rw [e]; exact h.own n hn, h.off⟩
theorem AllIs.store {w : World} {g : Nat} {l : List St} {k : Nat} {K : Nat → Hd} (h : AllIs w g l k K) (hk : isAt l k = true) (hkl : k < l.length) (hd : Hd) (o : Owns w hd (rowN (hypsF l k))) (hg : hd.blk ≠ some g) :
    AllIs (w.setCell ⟨g, k, none⟩ (.slice hd.ao (hypsF l k).length hd.cap)) g l (k + 1) (upd K k hd) := by
  have e : ∀ n, n ≠ k → hypsA l (k + 1) n = hypsA l k n := by
    intro n en
    unfold hypsA
    have : (n < k + 1 ∧ isAt l n = true) ↔ (n < k ∧ isAt l n = true) := and_congr_left (fun _ => by omega)
    simp only [this]
  have ek : hypsA l (k + 1) k = hypsF l k := by unfold hypsA; rw [if_pos ⟨by omega, hk⟩]
  obtain ⟨arr, h1, h2, h3⟩ := h.arr
  refine ⟨⟨_, block_setCell h1 _ _, by simpa using h2, ?_⟩, ?_, ?_⟩
  · intro n hn
    by_cases en : n = k
    · subst en
      rw [upd_same, ek]
      simp [h2, hn]
    · rw [upd_other _ _ _ _ en, e n en]
      rw [Array.getElem?_setIfInBounds_ne (by omega)]
      exact h3 n hn
  · intro n hn
    by_cases en : n = k
    · subst en
      rw [upd_same, ek]
      exact o.moved (fun x hx => Below.heap_setCell _ _ _ _ (by rintro rfl; exact hg hx))
    · rw [upd_other _ _ _ _ en, e n en]
      exact (h.own n hn).moved (fun x hx => Below.heap_setCell _ _ _ _ (by rintro rfl; exact h.off n hx))
  · intro n
    by_cases en : n = k
    · subst en; rw [upd_same]; exact hg
    · rw [upd_other _ _ _ _ en]; exact h.off n

set_option maxHeartbeats 2000000 in
set_option maxRecDepth 100000 in
theorem allHypotheses_any (b o : Nat) (l : List St) (H : Nat → Hd) (w : World) (h : RecAt w b o l H) (ok : RecOk l) :
    Calls Tryz.prog 52 #[.pointer (some ⟨b, o, none⟩)] w fun e w' => ∃ (g : Nat) (K : Nat → Hd), e = .returned (.slice (some ⟨g, 0, none⟩) l.length l.length) ∧ AllIs w' g l l.length K ∧ w.heap.size ≤ g ∧ (∀ n x, (K n).blk = some x → w.heap.size ≤ x) ∧ Kept [] w w' := by
  obtain ⟨i0, hi, hz0, hz1, hz2⟩ := info_parts infoL
  have hlen := ok.len
  have hbw := h.lt
  have m1 := fun w => run_make_row (P := Tryz.prog) w 116 45 i0 _ Tryz.underlying116 hi hz0 l.length 1 hz1 (by rw [hz2]; omega) (by omega)
  obtain ⟨mc, hmc⟩ : ∃ mc, mc = madeCells (Value.slice none 0 0).cells (l.length * 1) := ⟨_, rfl⟩
  rw [← hmc] at m1
  have A0 : Hid (AllIs (w.alloc (.cells mc 45)) w.heap.size l 0 noHd) := by
    refine ⟨⟨mc, heap_alloc_new _ _, by rw [hmc, size_madeCells]; omega, ?_⟩, ?_, fun n e => by simp [noHd, Hd.blk] at e⟩
    · intro n hn
      have e : hypsA l 0 n = [] := by unfold hypsA; rw [if_neg (by omega)]
      rw [e, hmc]
      exact made_at _ _ _ (by omega)
    · intro n hn
      have e : hypsA l 0 n = [] := by unfold hypsA; rw [if_neg (by omega)]
      rw [e]; exact World.ownsRow_nil _ _ _ _
  clear hmc
  go_enter Tryz.func52, Tryz.ntmps52
  go_wp2_with (go_at_call 45; refine (count_any b o l H _ (by exact h)).mono ?_; rintro e wc ⟨rfl, hwc⟩; rw [hwc])
  go_loopg [4] l.length (fun gk i wr => ∃ (k : Nat) (K : Nat → Hd), k ≤ l.length ∧ gk = l.length - k ∧ i = .int .i64 k ∧ AllIs wr w.heap.size l k K ∧ (∀ n x, (K n).blk = some x → w.heap.size ≤ x) ∧ Kept [] w wr)
  case atStart => exact ⟨0, noHd, by omega, by omega, rfl, A0.out, fun n x hx => by simp [noHd, Hd.blk] at hx, (Kept.refl _ _).alloc _⟩
  case round =>
    obtain ⟨k, K, hk, hg, rfl, hA, hN, hK⟩ := hrel
    have hr := h.still hK
    clear A0 m1
    by_cases hlt : k < l.length
    · have HI := (show Hid _ from isAt_eq l k hlt)
      cases ha : isA l[k].kind
      · have HS : Hid (AllIs wr w.heap.size l (k + 1) K) := hA.skip (by rw [HI.out, ha])
        clear HI
        go_wp2_with (first | (go_at_call 53; refine (statement_any b o k l H _ (by exact hr) hlt).mono ?_; rintro e w3 ⟨rfl, hk3⟩; unfold stVal) | (go_at_call 65; refine (isAssertion_any l[k].kind _ _ _ _ _ _ _ _).mono ?_; rintro e w4 ⟨rfl, hk4⟩))
        go_roundg (l.length - (k + 1))
        case measure => omega
        case rel => exact ⟨k + 1, K, by omega, rfl, by go_num, (HS.out.still hk3).still hk4, hN, (hK.trans hk3).trans hk4⟩
      · go_wp2_with (first | (go_at_call 53; refine (statement_any b o k l H _ (by exact hr) hlt).mono ?_; rintro e w3 ⟨rfl, hk3⟩; unfold stVal) | (go_at_call 65; refine (isAssertion_any l[k].kind _ _ _ _ _ _ _ _).mono ?_; rintro e w4 ⟨rfl, hk4⟩))
        have hk34 := hk3.trans hk4
        refine (hypotheses_any b o k l H _ (hr.still hk34) hlt ok).mono ?_
        rintro e w5 ⟨hd, rfl, hO5, hN5, hk5⟩
        have hA5 := (hA.still hk34).still hk5
        have hgl := (hA.still hk34).lt
        have hng : hd.blk ≠ some w.heap.size := fun e => by have := hN5 _ e; omega
        have HS := (show Hid _ from hA5.store (by rw [HI.out, ha]) hlt hd hO5 hng)
        have hK5 := (hK.trans hk34).trans hk5
        have hs3 := (hK.trans hk34).size
        have HN' : Hid (∀ n x, (upd K k hd n).blk = some x → w.heap.size ≤ x) := by
          intro n x hx
          by_cases e : n = k
          · subst e; rw [upd_same] at hx; have := hN5 x hx; omega
          · rw [upd_other _ _ _ _ e] at hx; exact hN n x hx
        have c1 := hA5.cell k hlt
        have hf := hA5.free
        clear hN5 hO5
        go_wp2
        go_roundg (l.length - (k + 1))
        case measure => omega
        case rel => exact ⟨k + 1, upd K k hd, by omega, rfl, by go_num, HS.out, HN'.out, hK5.setCell (Or.inr (Nat.le_refl _)) _⟩
    · have e : k = l.length := by omega
      subst e
      go_wp2
      go_ret
      exact ⟨w.heap.size, K, rfl, hA, Nat.le_refl _, hN, hK⟩

end Go.Proofs.YtcipkfhpcbddiaaGreat

/- Package apart: positions. -/
namespace Go.Proofs.YtcipkfhpcbddiaaGreat
open Go.RowKit

/-- Where in a list a word stands. -/
def posF (vs : List ByteArray) (x : ByteArray) : Option Nat := (List.range vs.length).find? (fun i => (vs.getD i ⟨#[]⟩).toList == x.toList)
def bools (l : List Bool) : List Value := l.map Value.bool
def rowBl (l : List Bool) : Row := ⟨4, 1, l.length, bools l⟩
/-- A table of variables: its own two lists. -/
structure ApIs (w : World) (tb : Nat) (vs : List ByteArray) (ms : List Bool) (hv hm : Hd) : Prop where
  blk : w.heap[tb]? = some (.cells #[.slice hv.ao vs.length hv.cap, .slice hm.ao ms.length hm.cap] 178 (0, 0))
  vars : Owns w hv (rowS vs)
  marks : Owns w hm (rowBl ms)
  o1 : hv.blk ≠ some tb
  o2 : hm.blk ≠ some tb
  o3 : hv.blk = none ∨ hv.blk ≠ hm.blk
theorem ApIs.cells {w : World} {tb : Nat} {vs : List ByteArray} {ms : List Bool} {hv hm : Hd} (h : ApIs w tb vs ms hv hm) : w.cell? ⟨tb, 0, none⟩ = some (.slice hv.ao vs.length hv.cap) ∧ w.cell? ⟨tb, 1, none⟩ = some (.slice hm.ao ms.length hm.cap) := by
  refine ⟨?_, ?_⟩ <;> (rw [cell_of h.blk]; rfl)
theorem ApIs.lt {w : World} {tb : Nat} {vs : List ByteArray} {ms : List Bool} {hv hm : Hd} (h : ApIs w tb vs ms hv hm) : tb < w.heap.size := lt_of_get h.blk
theorem ApIs.kept {w w' : World} {tb : Nat} {vs : List ByteArray} {ms : List Bool} {hv hm : Hd} {S : List Nat} (h : ApIs w tb vs ms hv hm) (k : Kept S w w') (h1 : tb ∉ S) (h2 : ∀ x, hv.blk = some x ∨ hm.blk = some x → x ∉ S) : ApIs w' tb vs ms hv hm :=
  ⟨k.get h.blk h1, h.vars.moved (fun x hx => k.block x (h.vars.lt hx) (h2 x (Or.inl hx))), h.marks.moved (fun x hx => k.block x (h.marks.lt hx) (h2 x (Or.inr hx))), h.o1, h.o2, h.o3⟩
theorem ApIs.still {w w' : World} {tb : Nat} {vs : List ByteArray} {ms : List Bool} {hv hm : Hd} (h : ApIs w tb vs ms hv hm) (k : Kept [] w w') : ApIs w' tb vs ms hv hm := h.kept k (by simp) (by simp)

set_option maxHeartbeats 800000 in
theorem position_any (tb : Nat) (vs : List ByteArray) (ms : List Bool) (hv hm : Hd) (x : ByteArray) (w : World) (h : ApIs w tb vs ms hv hm) (hl : vs.length ≤ 1073741824) :
    Calls Tryz.prog 125 #[.pointer (some ⟨tb, 0, none⟩), .string x] w fun e w' => e = .returned (.int .i64 (optV (posF vs x))) ∧ w' = w := by
  obtain ⟨c0, c1⟩ := h.cells
  go_enter Tryz.func125, Tryz.ntmps125
  go_wp2
  go_loopg [5] vs.length (fun g i wr => ∃ k : Nat, k ≤ vs.length ∧ g = vs.length - k ∧ i = .int .i64 k ∧ Hid (∀ i, i < k → ((vs.getD i ⟨#[]⟩).toList == x.toList) = false) ∧ wr = w)
  case atStart => exact ⟨0, by omega, by omega, rfl, fun i hi => by omega, rfl⟩
  case round =>
    obtain ⟨k, hk, hg, rfl, hall, rfl⟩ := hrel
    by_cases hlt : k < vs.length
    · rcases h.vars.ways with ⟨_, h0, _⟩ | ⟨g, cur, e1, -, e3, -⟩
      · have : vs.length = 0 := h0
        omega
      · have c2 := h.vars.cell e1 k (.string vs[k]) (strs_at vs k hlt)
        rw [e1] at c0
        have HG := (show Hid _ from getD_at vs k hlt)
        have hcp : vs.length ≤ hv.cap := e3
        generalize vs[k] = y at *
        cases hb : (y.toList == x.toList)
        · have HN : Hid (∀ i, i < k + 1 → ((vs.getD i ⟨#[]⟩).toList == x.toList) = false) := by
            intro i hi
            by_cases e : i = k
            · subst e; rw [HG.out]; exact hb
            · exact hall.out i (by omega)
          clear HG h
          go_wp2
          go_roundg (vs.length - (k + 1))
          case measure => omega
          case rel => exact ⟨k + 1, by omega, rfl, by go_num, HN, rfl⟩
        · have HF : Hid (posF vs x = some k) := range_hit hlt (by rw [HG.out]; exact hb) hall.out
          clear HG h
          go_wp2
          go_ret
          exact ⟨ret_int (by rw [HF.out]; rfl), rfl⟩
    · have HF : Hid (posF vs x = none) := range_none (fun i hi => hall.out i (by omega))
      clear h
      go_wp2
      go_ret
      exact ⟨ret_int (by rw [HF.out]; rfl), rfl⟩

/-- The positions of those words that stand in the list. -/
def positionsF (vs ws : List ByteArray) : List Nat := ws.filterMap (posF vs)
theorem positions_some (vs ws : List ByteArray) (k p : Nat) (h : k < ws.length) (hp : posF vs ws[k] = some p) : positionsF vs (ws.take (k + 1)) = positionsF vs (ws.take k) ++ [p] := by
  unfold positionsF; rw [take_snoc ws k h, List.filterMap_append]; simp [hp]
theorem positions_none (vs ws : List ByteArray) (k : Nat) (h : k < ws.length) (hp : posF vs ws[k] = none) : positionsF vs (ws.take (k + 1)) = positionsF vs (ws.take k) := by
  unfold positionsF; rw [take_snoc ws k h, List.filterMap_append]; simp [hp]
theorem positions_len (vs ws : List ByteArray) : (positionsF vs ws).length ≤ ws.length := List.length_filterMap_le _ _

set_option maxHeartbeats 1600000 in
set_option maxRecDepth 100000 in
theorem positions_any (tb : Nat) (vs : List ByteArray) (ms : List Bool) (hv hm hw : Hd) (ws : List ByteArray) (w : World) (h : ApIs w tb vs ms hv hm) (hl : vs.length ≤ 1073741824) (hvw : View w hw ws) (hwl : ws.length ≤ 1000000) :
    Calls Tryz.prog 107 #[.pointer (some ⟨tb, 0, none⟩), .slice hw.ao ws.length hw.cap] w fun e w' => ∃ hd : Hd, e = .returned (.slice hd.ao (positionsF vs ws).length hd.cap) ∧ Owns w' hd (rowN (positionsF vs ws)) ∧ (∀ x, hd.blk = some x → w.heap.size ≤ x) ∧ Kept [] w w' := by
  obtain ⟨i0, hi, hz0, hz1, hz2⟩ := info_parts infoN
  obtain ⟨ao, cap⟩ := hw
  rcases hvw with rfl | ⟨g, off, cur, t, e1, e2, e3, e4, e5⟩
  · clear hwl
    go_enter Tryz.func107, Tryz.ntmps107
    go_wp2
    refine wp_loop_rounds 1 ?_
    rw [rounds_succ]
    go_wp2
    go_ret
    exact ⟨⟨none, 0⟩, rfl, World.ownsRow_nil _ _ _ _, by intro x hx; simp [Hd.blk] at hx, Kept.refl _ _⟩
  simp only at e1
  subst e1
  go_enter Tryz.func107, Tryz.ntmps107
  go_wp2
  go_loopg [5, 6] ws.length (fun gk sv i wr => ∃ (k : Nat) (hd : Hd), k ≤ ws.length ∧ gk = ws.length - k ∧ i = .int .i64 k ∧ sv = .slice hd.ao (positionsF vs (ws.take k)).length hd.cap ∧ Owns wr hd (rowN (positionsF vs (ws.take k))) ∧ (∀ x, hd.blk = some x → w.heap.size ≤ x) ∧ Kept [] w wr)
  case atStart => exact ⟨0, ⟨none, 0⟩, by omega, by omega, rfl, rfl, World.ownsRow_nil _ _ _ _, by intro x hx; simp [Hd.blk] at hx, Kept.refl _ _⟩
  case round =>
    obtain ⟨k, hd, hk, hg, rfl, rfl, hO, hN, hK⟩ := hrel
    have hr := h.still hK
    have hlp := positions_len vs (ws.take k)
    have hlt' : (ws.take k).length ≤ k := by simp; omega
    by_cases hlt : k < ws.length
    · have c2 : wr.cell? ⟨g, off + k, none⟩ = some (.string ws[k]) := (cell_of (hK.get e2 (by simp)) (off + k)).trans (e3 k ws[k] (List.getElem?_eq_getElem hlt))
      · skip
        have PS := fun p => positions_some vs ws k p hlt
        have PN := positions_none vs ws k hlt
        have HPS := (show Hid _ from PS)
        have HPN := (show Hid _ from PN)
        have PA := position_any tb vs ms hv hm ws[k] wr hr hl
        have HPA := (show Hid _ from PA)
        clear PS PN PA e3
        generalize ws[k] = y at *
        rcases hp : posF vs y with _ | p
        · have HT := (show Hid _ from HPN.out hp)
          rw [hp] at HPA
          simp only [optV] at HPA
          clear HPS HPN
          go_wp2_with (go_at_call 125; refine Calls.mono HPA.out ?_; rintro e w3 ⟨rfl, rfl⟩)
          go_roundg (ws.length - (k + 1))
          case measure => omega
          case rel => exact ⟨k + 1, hd, by omega, rfl, by go_num, by rw [HT.out], by rw [HT.out]; exact hO, hN, hK⟩
        · have HT := (show Hid _ from HPS.out p hp)
          rw [hp] at HPA
          simp only [optV] at HPA
          have hO4 := hO.moved (fun x hx => ((Kept.refl [] wr).alloc (.cells #[.int .i64 p] 3)).block x (hO.lt hx) (by simp))
          clear HPS HPN
          go_wp2_with (first | (go_at_call 125; refine Calls.mono HPA.out ?_; rintro e w3 ⟨rfl, hw3⟩; rw [hw3]) | (at_builtin; refine wpList_append_row _ rfl (.tmp 22) (.tmp 24) 45 rfl i0 (.int .i64 0) 8 hd (rowN (positionsF vs (ws.take k))) Tryz.underlying45 hi hz0 hz1 hz2 rfl Nat.one_pos rfl (by exact hO4) ⟨_, 0, none⟩ 1 1 [.int .i64 p] rfl rfl ?d1 ?d2 Nat.one_pos ?d3 ?d4 ?_))
          case d1 => intro j u hj; match j, hj with | 0, hj => simp at hj; subst hj; simp [Addr.add]
          case d2 => intro u hu; simp at hu; subst hu; rfl
          case d3 => simp only [rowN]; unfold maxLen; omega
          case d4 => simp only [rowN]; omega
          intro g5 cap5 w5 hw5 hgr5 hfresh5
          rw [rowN_snoc (positionsF vs (ws.take k)) p, ← HT.out] at hw5
          have hK4 := hK.alloc (.cells #[.int .i64 p] 3)
          have hK5 := hK4.grown hgr5 hN
          have hg5 : w.heap.size ≤ g5 := by
            rcases hfresh5 with e | e
            · exact hN g5 e
            · have := hK4.size; simp at e this; omega
          have hEl : Hid ((rowN (positionsF vs (ws.take k))).n + 1 = (positionsF vs (ws.take (k + 1))).length) := by show _ = _; rw [HT.out]; simp [rowN]
          rw [hEl.out]
          clear hgr5 hfresh5 hO4
          go_wp2
          go_roundg (ws.length - (k + 1))
          case measure => omega
          case rel => exact ⟨k + 1, ⟨some ⟨g5, 0, none⟩, cap5⟩, by omega, rfl, by go_num, rfl, hw5, by intro x hx; simp [Hd.blk] at hx; omega, hK5⟩
    · have e : k = ws.length := by omega
      subst e
      rw [List.take_length] at hO ⊢
      go_wp2
      go_ret
      exact ⟨hd, rfl, hO, hN, hK⟩

end Go.Proofs.YtcipkfhpcbddiaaGreat
