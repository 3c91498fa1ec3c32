/- Our texts: Db16, ReadF. -/
import Derived.Test.YtkancbaldeeijaaGreatG02
import Derived.Test.YtkancbaldeeijaaGreatG07
/- Package statements: Take. -/
namespace Go.Proofs.YtkancbaldeeijaaGreat
open Go.RowKit

theorem dollar_eq (x : ByteArray) (h : (x.toList == [36, 61]) = true) : dollarF x = true := by
  have : x = ⟨#[36, 61]⟩ := bytes_ext (by rw [ByteArray.toList_mk [36, 61]]; simpa using h)
  rw [this]; decide +kernel

theorem rowW_snoc (l : List (ByteArray × Pl)) (p : ByteArray × Pl) : (⟨(rowW l).e, (rowW l).size, (rowW l).n + 1, (rowW l).xs ++ wordV p⟩ : Row) = rowW (l ++ [p]) := by
  simp [rowW, wordsV]

theorem build_word (w : World) (x f : ByteArray) (l c : Int) : (Instr.build 131 #[(0, .string x), (1, .agg #[.string f, .int .i64 l, .int .i64 c])]).run Tryz.prog w = .ok (.agg #[.string x, .string f, .int .i64 l, .int .i64 c]) w :=
  run_build w 131 _ _ (by kernel_rfl)
attribute [local go_sem] build_word

/-- What Take leaves: the frame of its cases. -/
def TakeSays (b t o : Nat) (pre post : List Value) (d : Db) (H : Nat → Hd) (x f : ByteArray) (l c : Int) (w : World) : Prop :=
  Calls Tryz.prog 61 #[.pointer (some ⟨b, o, none⟩), .string x, .agg #[.string f, .int .i64 l, .int .i64 c]] w fun e w' => e = .returned (.int .i64 (takeF d x ⟨f, l, c⟩).1) ∧ ∃ H', DbIs w' b t pre post (takeF d x ⟨f, l, c⟩).2 H' ∧ Turned b w H w' H'

/-- The world behind the place's own variable. -/
theorem boxed {w : World} {b t : Nat} {pre post : List Value} {d : Db} {H : Nat → Hd} (h : DbIs w b t pre post d H) (f : ByteArray) (l c : Int) :
    ∃ W, Hid (w.alloc (.cells #[.string f, .int .i64 l, .int .i64 c] 45) = W) ∧ Kept [] w W ∧ DbIs W b t pre post d H ∧ W.cell? ⟨w.heap.size, 0, none⟩ = some (.string f) ∧ W.cell? ⟨w.heap.size, 1, none⟩ = some (.int .i64 l) ∧ W.cell? ⟨w.heap.size, 2, none⟩ = some (.int .i64 c) := by
  have B : (w.alloc (.cells #[.string f, .int .i64 l, .int .i64 c] 45)).heap[w.heap.size]? = some (.cells #[.string f, .int .i64 l, .int .i64 c] 45 (0, 0)) := heap_alloc_new _ _
  refine ⟨_, rfl, (Kept.refl [] _).alloc _, h.still ((Kept.refl [] _).alloc _), ?_, ?_, ?_⟩ <;> rw [cell_of B] <;> rfl

set_option maxHeartbeats 2000000 in
set_option maxRecDepth 100000 in
theorem takeSym_any (b t o : Nat) (pre post : List Value) (d : Db) (H : Nat → Hd) (x f : ByteArray) (l c : Int) (w : World) (h : DbIs w b t pre post d H) (ho : pre.length = o) (hs1 : Small d 10000000) (hx : x.size ≤ 1073741824) (k0 : (d.kind == 0) = false) (k1 : (d.kind == 6) = false) (e46 : (x.toList == [36, 46]) = false) (e61 : (x.toList == [36, 61]) = false) (hd : dollarF x = false) (hp : d.inProof = false) :
    TakeSays b t o pre post d H x f l c w := by
  unfold TakeSays
  have hs := hs1.mono (M := 1073741824) (by omega)
  obtain ⟨W, HW, K, D, p0, p1, p2⟩ := boxed h f l c
  clear h
  obtain ⟨q0, q1, q2, q3, q4, q5, q6, q7, q8, q9, q10, q11, q12⟩ := D.cells o ho
  clear q0 q1 q2 q3 q4 q5 q6 q7 q9 q12
  have hfr := D.free
  rw [hp] at q11
  cases hc : (checkSymbolF d x == 0)
  · have HT : Hid (takeF d x ⟨f, l, c⟩ = (checkSymbolF d x, d)) := by show takeF d x ⟨f, l, c⟩ = _; simp [takeF, k0, k1, e46, e61, hd, hp, hc]
    go_enter Tryz.func61, Tryz.ntmps61
    go_upto_region 1 with fail
    rw [HW.out]
    go_wp2_with (first | (go_at_call 78; refine (dollar_any x _ hx).mono ?_; rintro e w1 ⟨rfl, rfl⟩) | (go_at_call 83; refine (checkSymbol_any b t o pre post d H x _ (by exact D) ho hs).mono ?_; rintro e w1 ⟨rfl, rfl⟩))
    go_ret
    exact ⟨ret_int (by rw [HT.out]), H, by rw [HT.out]; exact D, (Turned.refl _ _ _).still K⟩
  · have HT : Hid (takeF d x ⟨f, l, c⟩ = (0, { d with symbols := d.symbols ++ [x] })) := by show takeF d x ⟨f, l, c⟩ = _; simp [takeF, k0, k1, e46, e61, hd, hp, hc]
    have hc0 : Hid (checkSymbolF d x = 0) := (show checkSymbolF d x = 0 by simpa using hc)
    have hsl := hs1.symbols
    obtain ⟨i0, hi0, hz0, hz1, hz2⟩ := info_parts infoS
    have hA := D.still ((Kept.refl [] W).alloc (.cells #[.string x] 9))
    have hownA := hA.own 8
    have hbw := D.lt
    go_enter Tryz.func61, Tryz.ntmps61
    go_upto_region 1 with fail
    rw [HW.out]
    go_wp2_with (first | (go_at_call 78; refine (dollar_any x _ hx).mono ?_; rintro e w1 ⟨rfl, rfl⟩) | (go_at_call 83; refine (checkSymbol_any b t o pre post d H x _ (by exact D) ho hs).mono ?_; rintro e w1 ⟨rfl, rfl⟩) | (at_builtin; refine wpList_append_row _ rfl (.tmp 74) (.tmp 76) 22 rfl i0 (.string ⟨#[]⟩) 16 (H 8) (rowS d.symbols) Tryz.underlying22 hi0 hz0 hz1 hz2 rfl Nat.one_pos rfl (by exact hownA) ⟨_, 0, none⟩ 1 1 [.string x] rfl rfl ?c1 ?c2 Nat.one_pos ?c3 ?c4 ?_))
    case c1 => intro j u hj; match j, hj with | 0, hj => simp at hj; subst hj; simp [Addr.add]
    case c2 => intro u hu; simp at hu; subst hu; rfl
    case c3 => simp only [rowS]; unfold maxLen; omega
    case c4 => simp only [rowS]; omega
    intro g cap' w1 hw1 hgr hfresh
    obtain ⟨k0, f0, HP⟩ := hA.app (d' := { d with symbols := d.symbols ++ [x] }) o 10 ho 8 (by omega) g cap' ((rowS d.symbols).n + 1) _ hw1 (rowS_snoc d.symbols x) hgr (by simpa using hfresh) (rows_symbols d H _) (by omega) _ rfl (by simp [dbList, upd, rowS])
    clear hA hownA q8 q10 q11 hw1 hgr hfresh hfr
    go_wp2
    go_ret
    exact ⟨ret_int (by rw [HT.out, hc0.out]), _, by rw [HT.out]; exact HP.out.1, HP.out.2.first (K.alloc _)⟩

set_option maxHeartbeats 2000000 in
set_option maxRecDepth 100000 in
theorem takeProof_any (b t o : Nat) (pre post : List Value) (d : Db) (H : Nat → Hd) (x f : ByteArray) (l c : Int) (w : World) (h : DbIs w b t pre post d H) (ho : pre.length = o) (hs1 : Small d 10000000) (hx : x.size ≤ 1073741824) (k0 : (d.kind == 0) = false) (k1 : (d.kind == 6) = false) (e46 : (x.toList == [36, 46]) = false) (e61 : (x.toList == [36, 61]) = false) (hd : dollarF x = false) (hp : d.inProof = true) :
    TakeSays b t o pre post d H x f l c w := by
  unfold TakeSays
  obtain ⟨W, HW, K, D, p0, p1, p2⟩ := boxed h f l c
  clear h
  obtain ⟨q0, q1, q2, q3, q4, q5, q6, q7, q8, q9, q10, q11, q12⟩ := D.cells o ho
  clear q0 q1 q2 q3 q4 q5 q6 q7 q9 q10
  have hfr := D.free
  rw [hp] at q11
  have HT : Hid (takeF d x ⟨f, l, c⟩ = (0, { d with proof := d.proof ++ [(x, ⟨f, l, c⟩)] })) := by show takeF d x ⟨f, l, c⟩ = _; simp [takeF, k0, k1, e46, e61, hd, hp]
  have hsl := hs1.proof
  obtain ⟨i0, hi0, hz0, hz1, hz2⟩ := info_parts infoW
  have hbw := D.lt
  have hD : Hid (DbIs (W.alloc (.cells #[.string x, .string f, .int .i64 l, .int .i64 c] 131)).drew b t pre post d H) := D.still ((Kept.refl [] W).alloc _).drew
  have s2 : Hid (∀ j u, (wordV (x, ⟨f, l, c⟩))[j]? = some u → (W.alloc (.cells #[.string x, .string f, .int .i64 l, .int .i64 c] 131)).drew.cell? ((⟨W.heap.size, 0, none⟩ : Addr).add j) = some u) := by
    intro j u hj
    have hk : (W.alloc (.cells #[.string x, .string f, .int .i64 l, .int .i64 c] 131)).drew.heap[W.heap.size]? = some (.cells #[.string x, .string f, .int .i64 l, .int .i64 c] 131 (0, 0)) := heap_alloc_new _ _
    rw [addr_add, cell_of hk]; simpa [wordV] using hj
  have s3 : Hid (∀ u ∈ wordV (x, ⟨f, l, c⟩), u.oneCell' = true) := by
    intro u hu
    simp only [wordV, List.mem_cons, List.not_mem_nil, or_false] at hu
    rcases hu with rfl | rfl | rfl | rfl <;> rfl
  have s4 : Hid ((rowW d.proof).n + 1 ≤ maxLen) := by show _ ≤ _; simp only [rowW]; unfold maxLen; omega
  have s5 : Hid (((rowW d.proof).n + 1) * 48 ≤ 140737488355328) := by show _ ≤ _; simp only [rowW]; omega
  go_enter Tryz.func61, Tryz.ntmps61
  go_upto_region 1 with fail
  rw [HW.out]
  go_wp2_with (go_at_call 78; refine (dollar_any x _ hx).mono ?_; rintro e w1 ⟨rfl, rfl⟩)
  go_region_law (refine step_append_row rfl (.tmp 57) (.tmp 61) 89 rfl i0 (.agg #[.string ⟨#[]⟩, .string ⟨#[]⟩, .int .i64 0, .int .i64 0]) 48 (H 9) (rowW d.proof) Tryz.underlying89 hi0 hz0 hz1 hz2 rfl (Nat.succ_pos 3) (by simp [Act.eval] <;> rfl) (hD.out.own 9) ⟨_, 0, none⟩ 1 1 (wordV (x, ⟨f, l, c⟩)) (by simp [Act.eval] <;> rfl) rfl s2.out s3.out Nat.one_pos s4.out s5.out ?_; intro g cap' w1 hw1 hgr hfresh; obtain ⟨k5, f5, HP⟩ := hD.out.app (d' := { d with proof := d.proof ++ [(x, ⟨f, l, c⟩)] }) o 12 ho 9 (by omega) g cap' ((rowW d.proof).n + 1) _ hw1 (rowW_snoc d.proof (x, ⟨f, l, c⟩)) hgr (by simpa using hfresh) (rows_proof d H _) (by omega) _ rfl (by simp [dbList, upd, rowW]); clear hw1 hgr hfresh)
  all_goals go_wp2
  all_goals go_ret
  all_goals exact ⟨ret_int (by rw [HT.out]), _, by rw [HT.out]; exact HP.out.1, HP.out.2.first (K.trans ((Kept.refl [] _).alloc _).drew)⟩

set_option maxHeartbeats 2000000 in
set_option maxRecDepth 100000 in
theorem takeEq_any (b t o : Nat) (pre post : List Value) (d : Db) (H : Nat → Hd) (x f : ByteArray) (l c : Int) (w : World) (h : DbIs w b t pre post d H) (ho : pre.length = o) (hx : x.size ≤ 1073741824) (k0 : (d.kind == 0) = false) (k1 : (d.kind == 6) = false) (e46 : (x.toList == [36, 46]) = false) (e61 : (x.toList == [36, 61]) = true) :
    TakeSays b t o pre post d H x f l c w := by
  unfold TakeSays
  obtain ⟨W, HW, K, D, p0, p1, p2⟩ := boxed h f l c
  clear h
  obtain ⟨q0, q1, q2, q3, q4, q5, q6, q7, q8, q9, q10, q11, q12⟩ := D.cells o ho
  clear q0 q1 q2 q3 q4 q5 q6 q7 q9 q10 q12
  have hfr := D.free
  have hd := dollar_eq x e61
  cases k5 : (d.kind == 5)
  · have HT : Hid (takeF d x ⟨f, l, c⟩ = (8, d)) := by show takeF d x ⟨f, l, c⟩ = _; simp [takeF, k0, k1, e46, k5, hd]
    go_enter Tryz.func61, Tryz.ntmps61
    go_upto_region 1 with fail
    rw [HW.out]
    go_wp2_with (go_at_call 78; refine (dollar_any x _ hx).mono ?_; rintro e w1 ⟨rfl, rfl⟩)
    go_ret
    exact ⟨ret_int (by rw [HT.out]), H, by rw [HT.out]; exact D, (Turned.refl _ _ _).still K⟩
  · cases hp : d.inProof
    · have HT : Hid (takeF d x ⟨f, l, c⟩ = beginProofF d) := by show takeF d x ⟨f, l, c⟩ = _; simp only [takeF, k0, k1, e46, e61, k5, hp]; simp
      rw [hp] at q11
      go_enter Tryz.func61, Tryz.ntmps61
      go_upto_region 1 with fail
      rw [HW.out]
      go_wp2_with fail
      refine (beginProof_any b t o pre post d H _ (by exact D) ho).mono ?_
      rintro e w2 ⟨rfl, H2, D2, T2⟩
      go_wp2
      go_ret
      exact ⟨ret_int (by rw [HT.out]), H2, by rw [HT.out]; exact D2, T2.first K⟩
    · have HT : Hid (takeF d x ⟨f, l, c⟩ = (8, d)) := by show takeF d x ⟨f, l, c⟩ = _; simp [takeF, k0, k1, e46, hp, hd]
      rw [hp] at q11
      go_enter Tryz.func61, Tryz.ntmps61
      go_upto_region 1 with fail
      rw [HW.out]
      go_wp2_with (go_at_call 78; refine (dollar_any x _ hx).mono ?_; rintro e w1 ⟨rfl, rfl⟩)
      go_ret
      exact ⟨ret_int (by rw [HT.out]), H, by rw [HT.out]; exact D, (Turned.refl _ _ _).still K⟩

set_option maxHeartbeats 2000000 in
set_option maxRecDepth 100000 in
theorem take_any (b t o : Nat) (pre post : List Value) (d : Db) (H : Nat → Hd) (x f : ByteArray) (l c : Int) (w : World) (h : DbIs w b t pre post d H) (ho : pre.length = o) (hs : Small d 10000000) (hx : x.size ≤ 1073741824) (hi : Inner d 100000000) :
    TakeSays b t o pre post d H x f l c w := by
  cases k0 : (d.kind == 0)
  · cases k1 : (d.kind == 6)
    · cases e46 : (x.toList == [36, 46])
      · cases e61 : (x.toList == [36, 61])
        · cases hd : dollarF x
          · cases hp : d.inProof
            · exact takeSym_any b t o pre post d H x f l c w h ho hs hx k0 k1 e46 e61 hd hp
            · exact takeProof_any b t o pre post d H x f l c w h ho hs hx k0 k1 e46 e61 hd hp
          · unfold TakeSays
            obtain ⟨W, HW, K, D, p0, p1, p2⟩ := boxed h f l c
            clear h hi
            obtain ⟨q0, q1, q2, q3, q4, q5, q6, q7, q8, q9, q10, q11, q12⟩ := D.cells o ho
            clear q0 q1 q2 q3 q4 q5 q6 q7 q9 q10 q12
            have HT : Hid (takeF d x ⟨f, l, c⟩ = (8, d)) := by show takeF d x ⟨f, l, c⟩ = _; simp [takeF, k0, k1, e46, e61, hd]
            go_enter Tryz.func61, Tryz.ntmps61
            go_upto_region 1 with fail
            rw [HW.out]
            go_wp2_with (go_at_call 78; refine (dollar_any x _ hx).mono ?_; rintro e w1 ⟨rfl, rfl⟩)
            go_ret
            exact ⟨ret_int (by rw [HT.out]), H, by rw [HT.out]; exact D, (Turned.refl _ _ _).still K⟩
        · exact takeEq_any b t o pre post d H x f l c w h ho hx k0 k1 e46 e61
      · unfold TakeSays
        obtain ⟨W, HW, K, D, p0, p1, p2⟩ := boxed h f l c
        clear h hi
        obtain ⟨q0, q1, q2, q3, q4, q5, q6, q7, q8, q9, q10, q11, q12⟩ := D.cells o ho
        clear q0 q1 q2 q3 q4 q5 q6 q7 q9 q10 q11 q12
        have HT : Hid (takeF d x ⟨f, l, c⟩ = endF d ⟨f, l, c⟩) := by show takeF d x ⟨f, l, c⟩ = _; simp only [takeF, k0, k1, e46]; simp
        go_enter Tryz.func61, Tryz.ntmps61
        go_upto_region 1 with fail
        rw [HW.out]
        go_wp2_with fail
        refine (end_any b t o pre post d H f l c _ (by exact D) ho hs).mono ?_
        rintro e w2 ⟨rfl, H2, D2, T2⟩
        go_wp2
        go_ret
        exact ⟨ret_int (by rw [HT.out]), H2, by rw [HT.out]; exact D2, T2.first K⟩
    · unfold TakeSays
      obtain ⟨W, HW, K, D, p0, p1, p2⟩ := boxed h f l c
      clear h hi
      obtain ⟨q0, q1, q2, q3, q4, q5, q6, q7, q8, q9, q10, q11, q12⟩ := D.cells o ho
      clear q0 q1 q2 q3 q4 q5 q6 q7 q9 q10 q11 q12
      have HT : Hid (takeF d x ⟨f, l, c⟩ = takeKeywordF d x) := by show takeF d x ⟨f, l, c⟩ = _; simp only [takeF, k0, k1]; simp
      go_enter Tryz.func61, Tryz.ntmps61
      go_upto_region 1 with fail
      rw [HW.out]
      go_wp2_with fail
      refine (takeKeyword_any b t o pre post d H x _ (by exact D) ho).mono ?_
      rintro e w2 ⟨rfl, H2, D2, T2⟩
      go_wp2
      go_ret
      exact ⟨ret_int (by rw [HT.out]), H2, by rw [HT.out]; exact D2, T2.first K⟩
  · unfold TakeSays
    obtain ⟨W, HW, K, D, p0, p1, p2⟩ := boxed h f l c
    clear h
    obtain ⟨q0, q1, q2, q3, q4, q5, q6, q7, q8, q9, q10, q11, q12⟩ := D.cells o ho
    clear q0 q1 q2 q3 q4 q5 q6 q7 q9 q10 q11 q12
    have HT : Hid (takeF d x ⟨f, l, c⟩ = takeFirstF d x) := by show takeF d x ⟨f, l, c⟩ = _; simp only [takeF, k0]; simp
    go_enter Tryz.func61, Tryz.ntmps61
    go_upto_region 1 with fail
    rw [HW.out]
    go_wp2_with fail
    refine (takeFirst_any b t o pre post d H x _ (by exact D) ho hs hx hi).mono ?_
    rintro e w2 ⟨rfl, H2, D2, T2⟩
    go_wp2
    go_ret
    exact ⟨ret_int (by rw [HT.out]), H2, by rw [HT.out]; exact D2, T2.first K⟩

end Go.Proofs.YtkancbaldeeijaaGreat

/- Package reader, as a function of the data: files, inclusions; a file without inclusions. -/
namespace Go.Proofs.YtkancbaldeeijaaGreat
open Go.RowKit

def emptyDb : Db := ⟨[], [], [], [], [], [], [], [], 0, ⟨#[]⟩, [], false, []⟩
/-- A fault: its rule and place; rule 0: none. -/
abbrev Flt := Int × Pl
def noFlt : Flt := (0, ⟨⟨#[]⟩, 0, 0⟩)
def fltV (f : Flt) : Value := .agg #[.int .i64 f.1, .string f.2.file, .int .i64 f.2.line, .int .i64 f.2.col]
def plAt (n s : ByteArray) (p : Nat) : Pl := ⟨n, lineAt s p, colAt s p⟩
def itemFlt (n s : ByteArray) (i : Item) : Flt := (if i.fin = true then 7 else i.rule, plAt n s i.pos)
/-- What reading leaves: a fault, which files were begun, the database. -/
abbrev Red := Flt × List Bool × Db

/-- Where an inclusion leads: a fault, or a file and the place behind it. -/
def incF (fs : List (ByteArray × ByteArray)) (x z : Nat) (p : Pl) (d : Db) : Flt ⊕ (Nat × Nat) :=
  if openF d = true then .inl (4, p)
  else if isWordF (nextF (fileDt fs x) z).1 = false then .inl (itemFlt (fileNm fs x) (fileDt fs x) (nextF (fileDt fs x) z).1)
  else if dollarF (nextF (fileDt fs x) z).1.text = true then .inl (5, plAt (fileNm fs x) (fileDt fs x) (nextF (fileDt fs x) z).1.pos)
  else if findF fs (nextF (fileDt fs x) z).1.text < 0 then .inl (6, plAt (fileNm fs x) (fileDt fs x) (nextF (fileDt fs x) z).1.pos)
  else if isWordF (nextF (fileDt fs x) (nextF (fileDt fs x) z).2).1 = false then .inl (itemFlt (fileNm fs x) (fileDt fs x) (nextF (fileDt fs x) (nextF (fileDt fs x) z).2).1)
  else if ((nextF (fileDt fs x) (nextF (fileDt fs x) z).2).1.text.toList == [36, 93]) = false then .inl (5, plAt (fileNm fs x) (fileDt fs x) (nextF (fileDt fs x) (nextF (fileDt fs x) z).2).1.pos)
  else .inr ((findF fs (nextF (fileDt fs x) z).1.text).toNat, (nextF (fileDt fs x) (nextF (fileDt fs x) z).2).2)
def incR (rf : Nat → List Bool → Db → Red) (fs : List (ByteArray × ByteArray)) (x z : Nat) (p : Pl) (bg : List Bool) (d : Db) : Red × Nat :=
  match incF fs x z p d with
  | .inl f => ((f, bg, d), z)
  | .inr (j, z') => (rf j bg d, z')
/-- One word: what it leaves, and where reading goes on. -/
def wordR (rf : Nat → List Bool → Db → Red) (fs : List (ByteArray × ByteArray)) (x z : Nat) (t : ByteArray) (p : Pl) (bg : List Bool) (d : Db) : Red × Nat :=
  if (t.toList == [36, 91]) = true then incR rf fs x z p bg d
  else ((if ((takeF d t p).1 == 0) = true then noFlt else ((takeF d t p).1, p), bg, (takeF d t p).2), z)
/-- File x from place k on. -/
def readGo (fs : List (ByteArray × ByteArray)) : Nat → Nat → Nat → List Bool → Db → Red
  | 0, _, _, bg, d => (noFlt, bg, d)
  | f + 1, x, k, bg, d =>
    if isWordF (nextF (fileDt fs x) k).1 = true then
      (if ((wordR (fun j bg d => if bg.getD j true = true then (noFlt, bg, d) else readGo fs f j 0 (bg.set j true) d) fs x (nextF (fileDt fs x) k).2 (nextF (fileDt fs x) k).1.text (plAt (fileNm fs x) (fileDt fs x) (nextF (fileDt fs x) k).1.pos) bg d).1.1.1 == 0) = true
       then readGo fs f x (wordR (fun j bg d => if bg.getD j true = true then (noFlt, bg, d) else readGo fs f j 0 (bg.set j true) d) fs x (nextF (fileDt fs x) k).2 (nextF (fileDt fs x) k).1.text (plAt (fileNm fs x) (fileDt fs x) (nextF (fileDt fs x) k).1.pos) bg d).2
          (wordR (fun j bg d => if bg.getD j true = true then (noFlt, bg, d) else readGo fs f j 0 (bg.set j true) d) fs x (nextF (fileDt fs x) k).2 (nextF (fileDt fs x) k).1.text (plAt (fileNm fs x) (fileDt fs x) (nextF (fileDt fs x) k).1.pos) bg d).1.2.1
          (wordR (fun j bg d => if bg.getD j true = true then (noFlt, bg, d) else readGo fs f j 0 (bg.set j true) d) fs x (nextF (fileDt fs x) k).2 (nextF (fileDt fs x) k).1.text (plAt (fileNm fs x) (fileDt fs x) (nextF (fileDt fs x) k).1.pos) bg d).1.2.2
       else (wordR (fun j bg d => if bg.getD j true = true then (noFlt, bg, d) else readGo fs f j 0 (bg.set j true) d) fs x (nextF (fileDt fs x) k).2 (nextF (fileDt fs x) k).1.text (plAt (fileNm fs x) (fileDt fs x) (nextF (fileDt fs x) k).1.pos) bg d).1)
    else if (nextF (fileDt fs x) k).1.fin = true ∧ openF d = false then (noFlt, bg, d) else (itemFlt (fileNm fs x) (fileDt fs x) (nextF (fileDt fs x) k).1, bg, d)
/-- readFile: nothing, if the file was begun. -/
def fileR (fs : List (ByteArray × ByteArray)) (f : Nat) (j : Nat) (bg : List Bool) (d : Db) : Red :=
  if bg.getD j true = true then (noFlt, bg, d) else readGo fs f j 0 (bg.set j true) d
/-- What one word leaves in a round. -/
def stepR (fs : List (ByteArray × ByteArray)) (f x k : Nat) (bg : List Bool) (d : Db) : Red × Nat :=
  wordR (fileR fs f) fs x (nextF (fileDt fs x) k).2 (nextF (fileDt fs x) k).1.text (plAt (fileNm fs x) (fileDt fs x) (nextF (fileDt fs x) k).1.pos) bg d
theorem go_on (fs : List (ByteArray × ByteArray)) (f x k : Nat) (bg : List Bool) (d : Db) (h1 : isWordF (nextF (fileDt fs x) k).1 = true) (h2 : ((stepR fs f x k bg d).1.1.1 == 0) = true) :
    readGo fs (f + 1) x k bg d = readGo fs f x (stepR fs f x k bg d).2 (stepR fs f x k bg d).1.2.1 (stepR fs f x k bg d).1.2.2 := by
  rw [readGo, if_pos h1]; exact if_pos h2
theorem go_stop (fs : List (ByteArray × ByteArray)) (f x k : Nat) (bg : List Bool) (d : Db) (h1 : isWordF (nextF (fileDt fs x) k).1 = true) (h2 : ((stepR fs f x k bg d).1.1.1 == 0) = false) :
    readGo fs (f + 1) x k bg d = (stepR fs f x k bg d).1 := by
  rw [readGo, if_pos h1]; exact if_neg (fun hh => Bool.noConfusion (h2.symm.trans hh))
theorem go_end (fs : List (ByteArray × ByteArray)) (f x k : Nat) (bg : List Bool) (d : Db) (h1 : isWordF (nextF (fileDt fs x) k).1 = false) (h2 : (nextF (fileDt fs x) k).1.fin = true) (h3 : openF d = false) :
    readGo fs (f + 1) x k bg d = (noFlt, bg, d) := by
  rw [readGo, if_neg (by simp [h1]), if_pos ⟨h2, h3⟩]
theorem go_bad (fs : List (ByteArray × ByteArray)) (f x k : Nat) (bg : List Bool) (d : Db) (h1 : isWordF (nextF (fileDt fs x) k).1 = false) (h2 : ¬ ((nextF (fileDt fs x) k).1.fin = true ∧ openF d = false)) :
    readGo fs (f + 1) x k bg d = (itemFlt (fileNm fs x) (fileDt fs x) (nextF (fileDt fs x) k).1, bg, d) := by
  rw [readGo, if_neg (by simp [h1]), if_neg h2]

/-- A file without inclusions: the rule and place of its first fault, and the database. -/
def readTo (n s : ByteArray) : Nat → Nat → Db → (Int × Nat) × Db
  | 0, _, d => ((0, 0), d)
  | f + 1, k, d =>
    if isWordF (nextF s k).1 = true then
      (if ((takeF d (nextF s k).1.text (plAt n s (nextF s k).1.pos)).1 == 0) = true then readTo n s f (nextF s k).2 (takeF d (nextF s k).1.text (plAt n s (nextF s k).1.pos)).2
       else (((takeF d (nextF s k).1.text (plAt n s (nextF s k).1.pos)).1, (nextF s k).1.pos), (takeF d (nextF s k).1.text (plAt n s (nextF s k).1.pos)).2))
    else if (nextF s k).1.fin = true then (if openF d = false then ((0, 0), d) else ((7, (nextF s k).1.pos), d)) else (((nextF s k).1.rule, (nextF s k).1.pos), d)
def readF (n s : ByteArray) (k : Nat) (d : Db) : (Int × Nat) × Db := readTo n s (s.size - k + 1) k d
def fltOf (n s : ByteArray) (q : Int × Nat) : Flt := if (q.1 == 0) = true then noFlt else (q.1, plAt n s q.2)
/-- No word of this text is an inclusion. -/
def NoInc (s : ByteArray) : Prop := ∀ k, k ≤ s.size → isWordF (nextF s k).1 = true → ((nextF s k).1.text.toList == [36, 91]) = false

theorem isWordF_eq {i : Item} (h : isWordF i = true) : i = ⟨i.text, 0, false, i.pos⟩ := by
  obtain ⟨t, u, f, p⟩ := i
  simp [isWordF] at h
  rw [h.1, h.2]
theorem isWordF_not {i : Item} (h : isWordF i = false) (hf : i.fin = false) : (i.rule == 0) = false := by
  simp [isWordF, hf] at h
  simpa using h

theorem readTo_fuel (n s : ByteArray) (f k : Nat) (d : Db) (hk : k ≤ s.size) (hf : s.size - k + 1 ≤ f) : readTo n s f k d = readF n s k d := by
  unfold readF
  suffices h : ∀ f g k d, k ≤ s.size → s.size - k + 1 ≤ f → s.size - k + 1 ≤ g → readTo n s f k d = readTo n s g k d from h _ _ _ _ hk hf (Nat.le_refl _)
  clear hf hk f k d
  intro f
  induction f with
  | zero => intro g k d _ h; omega
  | succ f ih =>
    intro g k d hk hf hg
    cases g with
    | zero => omega
    | succ g =>
      rw [readTo, readTo]
      split
      · next h =>
        have hl := nextF_le s k hk
        have hl2 := hl.2.2 h
        split
        · exact ih g _ _ hl.2.1 (by omega) (by omega)
        · rfl
      · rfl
theorem read_on (n s : ByteArray) (k : Nat) (d : Db) (hk : k ≤ s.size) (h1 : isWordF (nextF s k).1 = true) (h2 : ((takeF d (nextF s k).1.text (plAt n s (nextF s k).1.pos)).1 == 0) = true) :
    readF n s k d = readF n s (nextF s k).2 (takeF d (nextF s k).1.text (plAt n s (nextF s k).1.pos)).2 := by
  have hl := nextF_le s k hk
  have hl2 := hl.2.2 h1
  conv => lhs; unfold readF
  rw [readTo, if_pos h1, if_pos h2, readTo_fuel n s _ _ _ hl.2.1 (by omega)]
theorem read_rule (n s : ByteArray) (k : Nat) (d : Db) (h1 : isWordF (nextF s k).1 = true) (h2 : ((takeF d (nextF s k).1.text (plAt n s (nextF s k).1.pos)).1 == 0) = false) :
    readF n s k d = (((takeF d (nextF s k).1.text (plAt n s (nextF s k).1.pos)).1, (nextF s k).1.pos), (takeF d (nextF s k).1.text (plAt n s (nextF s k).1.pos)).2) := by
  unfold readF
  rw [readTo, if_pos h1, if_neg (by simp [h2])]
theorem read_end (n s : ByteArray) (k : Nat) (d : Db) (h1 : isWordF (nextF s k).1 = false) (h2 : (nextF s k).1.fin = true) (h3 : openF d = false) : readF n s k d = ((0, 0), d) := by
  unfold readF
  rw [readTo, if_neg (by simp [h1]), if_pos h2, if_pos h3]
theorem read_open (n s : ByteArray) (k : Nat) (d : Db) (h1 : isWordF (nextF s k).1 = false) (h2 : (nextF s k).1.fin = true) (h3 : openF d = true) : readF n s k d = ((7, (nextF s k).1.pos), d) := by
  unfold readF
  rw [readTo, if_neg (by simp [h1]), if_pos h2, if_neg (by simp [h3])]
theorem read_bad (n s : ByteArray) (k : Nat) (d : Db) (h1 : isWordF (nextF s k).1 = false) (h2 : (nextF s k).1.fin = false) : readF n s k d = (((nextF s k).1.rule, (nextF s k).1.pos), d) := by
  unfold readF
  rw [readTo, if_neg (by simp [h1]), if_neg (by simp [h2])]

/-- Without inclusions a file is read as if it were alone. -/
theorem go_plain (fs : List (ByteArray × ByteArray)) (x : Nat) (hni : NoInc (fileDt fs x)) (f : Nat) : ∀ k bg d, k ≤ (fileDt fs x).size → (fileDt fs x).size - k + 1 ≤ f →
    readGo fs f x k bg d = (fltOf (fileNm fs x) (fileDt fs x) (readF (fileNm fs x) (fileDt fs x) k d).1, bg, (readF (fileNm fs x) (fileDt fs x) k d).2) := by
  induction f with
  | zero => intro k bg d hk hf; omega
  | succ f ih =>
    intro k bg d hk hf
    have hl := nextF_le (fileDt fs x) k hk
    cases h1 : isWordF (nextF (fileDt fs x) k).1 with
    | true =>
      have hl2 := hl.2.2 h1
      have hn := hni k hk h1
      have es : stepR fs f x k bg d = ((if ((takeF d (nextF (fileDt fs x) k).1.text (plAt (fileNm fs x) (fileDt fs x) (nextF (fileDt fs x) k).1.pos)).1 == 0) = true then noFlt else ((takeF d (nextF (fileDt fs x) k).1.text (plAt (fileNm fs x) (fileDt fs x) (nextF (fileDt fs x) k).1.pos)).1, plAt (fileNm fs x) (fileDt fs x) (nextF (fileDt fs x) k).1.pos), bg, (takeF d (nextF (fileDt fs x) k).1.text (plAt (fileNm fs x) (fileDt fs x) (nextF (fileDt fs x) k).1.pos)).2), (nextF (fileDt fs x) k).2) := by
        unfold stepR wordR
        rw [hn]; simp
      cases h2 : ((takeF d (nextF (fileDt fs x) k).1.text (plAt (fileNm fs x) (fileDt fs x) (nextF (fileDt fs x) k).1.pos)).1 == 0) with
      | true =>
        rw [go_on fs f x k bg d h1 (by rw [es, h2]; rfl), es, ih _ _ _ hl.2.1 (by omega), ← read_on _ _ k d hk h1 h2]
      | false =>
        rw [go_stop fs f x k bg d h1 (by rw [es, h2]; simpa using h2), es, read_rule _ _ k d h1 h2]
        simp only [fltOf, h2]
    | false =>
      cases h2 : (nextF (fileDt fs x) k).1.fin with
      | true =>
        cases h3 : openF d with
        | false => rw [go_end fs f x k bg d h1 h2 h3, read_end _ _ k d h1 h2 h3]; rfl
        | true => rw [go_bad fs f x k bg d h1 (by simp [h3]), read_open _ _ k d h1 h2 h3]; simp [fltOf, itemFlt, h2]
      | false =>
        have h4 := isWordF_not h1 h2
        rw [go_bad fs f x k bg d h1 (by simp [h2]), read_bad _ _ k d h1 h2]; simp [fltOf, itemFlt, h2, h4]

end Go.Proofs.YtkancbaldeeijaaGreat
