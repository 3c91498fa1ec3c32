import Derived.Test.YtcipkfhpcbddiaaGreatQPuU
/- Parted: the text in a file of its own. No walk. -/
namespace Go.Proofs.YtcipkfhpcbddiaaGreat
open Go.RowKit

theorem I_size (c : ByteArray) : (litI ++ c).size = 24 + c.size := by rw [ByteArray.size_append, litI_size]
theorem I_tail (T c : ByteArray) : Tail T c (litI ++ c) 24 := by
  refine ⟨I_size c, fun i hi => ?_⟩
  have := byteAt_append_right litI c i hi
  rw [litI_size] at this; exact this
theorem I_pre (c : ByteArray) : Pre hdI (litI ++ c) := by rw [litI_is]; exact pre_of hdI c
theorem litI_line : ∀ i, i < 24 → (byteAt litI i == 10) = (i == 23) := by decide +kernel
theorem I_line (c : ByteArray) : lineAt (litI ++ c) 24 = 2 ∧ colAt (litI ++ c) 24 = 1 := by
  have b : ∀ i, i < 24 → byteAt (litI ++ c) i = byteAt litI i := fun i hi => byteAt_append_left _ _ _ (by rw [litI_size]; exact hi)
  have step : ∀ i, i ≤ 23 → lineAt (litI ++ c) i = 1 := by
    intro i
    induction i with
    | zero => intro _; rfl
    | succ i ih =>
      intro hi
      have e2 : (i == 23) = false := by simp; omega
      rw [lineAt, b i (by omega), ih (by omega), litI_line i (by omega), e2]; simp
  refine ⟨?_, ?_⟩
  · rw [show (24 : Nat) = 23 + 1 from rfl, lineAt, b 23 (by omega), step 23 (Nat.le_refl _), litI_line 23 (by omega)]; simp
  · rw [show (24 : Nat) = 23 + 1 from rfl, colAt, b 23 (by omega), litI_line 23 (by omega)]; simp

/-- Three words of the head: an inclusion. -/
structure IncW (s : ByteArray) (k z1 z2 z3 : Nat) (nm : List UInt8) : Prop where
  w1 : isWordF (nextF s k).1 = true
  t1 : ((nextF s k).1.text.toList == [36, 91]) = true
  e1 : (nextF s k).2 = z1
  w2 : isWordF (nextF s z1).1 = true
  t2 : (nextF s z1).1.text.toList = nm
  e2 : (nextF s z1).2 = z2
  w3 : isWordF (nextF s z2).1 = true
  t3 : ((nextF s z2).1.text.toList == [36, 93]) = true
  e3 : (nextF s z2).2 = z3
instance (s : ByteArray) (k z1 z2 z3 : Nat) (nm : List UInt8) : Decidable (IncW s k z1 z2 z3 nm) :=
  decidable_of_iff (isWordF (nextF s k).1 = true ∧ ((nextF s k).1.text.toList == [36, 91]) = true ∧ (nextF s k).2 = z1 ∧ isWordF (nextF s z1).1 = true ∧ (nextF s z1).1.text.toList = nm ∧ (nextF s z1).2 = z2 ∧ isWordF (nextF s z2).1 = true ∧ ((nextF s z2).1.text.toList == [36, 93]) = true ∧ (nextF s z2).2 = z3)
    ⟨fun ⟨a, b, c, d, e, f, g, h, i⟩ => ⟨a, b, c, d, e, f, g, h, i⟩, fun ⟨a, b, c, d, e, f, g, h, i⟩ => ⟨a, b, c, d, e, f, g, h, i⟩⟩
theorem incW1 : IncW hdI 0 2 4 7 (⟨#[105]⟩ : ByteArray).toList := by decide +kernel
theorem incW2 : IncW hdI 7 10 12 15 (⟨#[109]⟩ : ByteArray).toList := by decide +kernel
theorem incW3 : IncW hdI 15 18 20 23 (⟨#[105]⟩ : ByteArray).toList := by decide +kernel
theorem incEnd : (nextF hdI 23).1.fin = true ∧ (nextF hdI 23).1.rule = 0 := by decide +kernel
theorem incW_pre {s s' : ByteArray} (h : Pre s s') {k z1 z2 z3 : Nat} {nm : List UInt8} (w : IncW s k z1 z2 z3 nm) (hk : k ≤ s.size) (h1 : z1 ≤ s.size) (h2 : z2 ≤ s.size) : IncW s' k z1 z2 z3 nm := by
  have n1 := (next_pre h k hk (by rw [isWordF_eq w.w1]; simp)).1 (by rw [isWordF_eq w.w1])
  have n2 := (next_pre h z1 h1 (by rw [isWordF_eq w.w2]; simp)).1 (by rw [isWordF_eq w.w2])
  have n3 := (next_pre h z2 h2 (by rw [isWordF_eq w.w3]; simp)).1 (by rw [isWordF_eq w.w3])
  exact ⟨by rw [n1]; exact w.w1, by rw [n1]; exact w.t1, by rw [n1]; exact w.e1, by rw [n2]; exact w.w2, by rw [n2]; exact w.t2, by rw [n2]; exact w.e2, by rw [n3]; exact w.w3, by rw [n3]; exact w.t3, by rw [n3]; exact w.e3⟩
theorem inc_step (fs : List (ByteArray × ByteArray)) (f x k z1 z2 z3 j : Nat) (nm : ByteArray) (bg : List Bool) (d : Db) (w : IncW (fileDt fs x) k z1 z2 z3 nm.toList) (ho : openF d = false) (hd : dollarF nm = false) (hj : findF fs nm = j) :
    stepR fs f x k bg d = (fileR fs f j bg d, z3) := by
  have hnm : (nextF (fileDt fs x) z1).1.text = nm := bytes_ext w.t2
  unfold stepR wordR
  rw [if_pos w.t1, w.e1]
  unfold incR incF
  rw [if_neg (by rw [ho]; simp), if_neg (by rw [w.w2]; simp), hnm, if_neg (by rw [hd]; simp), hj, if_neg (by omega), w.e2, if_neg (by rw [w.w3]; simp), if_neg (by rw [w.t3]; simp), w.e3]
  simp

/-- Said of the chunk, the text being included. -/
theorem read_I (T c : ByteArray) (hT : Fine T) (hc : holdsF c = false) (fs : List (ByteArray × ByteArray)) (x y : Nat) (hxy : (x = 0 ∧ y = 1) ∨ (x = 1 ∧ y = 0)) (hn : fileNm fs x = ⟨#[109]⟩) (hd : fileDt fs x = litI ++ c) (hn2 : fileNm fs y = ⟨#[105]⟩) (hd2 : fileDt fs y = T)
    (hfx : findF fs ⟨#[109]⟩ = x) (hfy : findF fs ⟨#[105]⟩ = y) (hs : (litI ++ c).size ≤ 1024) :
    (readAll fs x).1 = fltTail (T ++ ⟨#[10]⟩ ++ c) (1 - lineAt T T.size) ∧ (readAll fs x).2.2.sts = mapSts (fun i => if i < (rdM T).2.sts.length then πF else πL (1 - lineAt T T.size)) (rdM (T ++ ⟨#[10]⟩ ++ c)).2.sts := by
  have kl := I_line c
  have kt := I_tail T c
  have sz := I_size c
  have hts := hT.size
  have pr := I_pre c
  have hbx : bg0.getD x true = false ∧ (bg0.set x true).getD y true = false ∧ ((bg0.set x true).set y true).getD x true = true ∧ ((bg0.set x true).set y true).getD y true = true := by
    rcases hxy with ⟨rfl, rfl⟩ | ⟨rfl, rfl⟩ <;> exact ⟨rfl, rfl, rfl, rfl⟩
  obtain ⟨b1, b2, b3, b4⟩ := hbx
  obtain ⟨ho, hp, hl⟩ := hT.left
  -- the text under its other name
  have h00 : Shf T T 0 0 := ⟨Nat.zero_le _, by omega, fun k _ _ => by simp⟩
  have ri := read_sh h00 ⟨#[109]⟩ ⟨#[105]⟩ (fun _ => πF) 0 (fun q _ _ i _ => by unfold πF plAt; rw [if_neg (show ¬ ((⟨#[109]⟩ : ByteArray).toList == []) = true by decide +kernel)]; rfl) 0 emptyDb (Nat.le_refl _) (Nat.zero_le _) (Nat.zero_le _) noLeft_empty
  have ei : readF ⟨#[105]⟩ T 0 emptyDb = ((rdM T).1, { (rdM T).2 with sts := (rdM T).2.sts.map (mapSt πF) }) := by
    have e1 : mapDb (fun _ => πF) emptyDb = emptyDb := rfl
    have e2 : mapDb (fun _ => πF) (rdM T).2 = { (rdM T).2 with sts := (rdM T).2.sts.map (mapSt πF) } := by rw [mapDb_closed _ _ hp, mapSts_const]
    have e3 : shQ 0 0 (rdM T).1 = (rdM T).1 := by unfold shQ; split <;> simp
    rw [e1] at ri
    have ri' : readF ⟨#[105]⟩ T 0 emptyDb = (shQ 0 0 (rdM T).1, mapDb (fun _ => πF) (rdM T).2) := ri
    rw [ri', e2, e3]
  have e0 : readAll fs x = readGo fs 5000 x 0 (bg0.set x true) emptyDb := by unfold readAll fileR; rw [if_neg (by rw [b1]; simp)]
  have w1 : IncW (fileDt fs x) 0 2 4 7 (⟨#[105]⟩ : ByteArray).toList := by rw [hd]; exact incW_pre pr incW1 (by rw [hdI_size]; omega) (by rw [hdI_size]; omega) (by rw [hdI_size]; omega)
  have w2 : IncW (fileDt fs x) 7 10 12 15 (⟨#[109]⟩ : ByteArray).toList := by rw [hd]; exact incW_pre pr incW2 (by rw [hdI_size]; omega) (by rw [hdI_size]; omega) (by rw [hdI_size]; omega)
  have w3 : IncW (fileDt fs x) 15 18 20 23 (⟨#[105]⟩ : ByteArray).toList := by rw [hd]; exact incW_pre pr incW3 (by rw [hdI_size]; omega) (by rw [hdI_size]; omega) (by rw [hdI_size]; omega)
  have s1 := inc_step fs 4999 x 0 2 4 7 y ⟨#[105]⟩ (bg0.set x true) emptyDb w1 rfl (by decide +kernel) hfy
  have f1 : fileR fs 4999 y (bg0.set x true) emptyDb = (noFlt, (bg0.set x true).set y true, { (rdM T).2 with sts := (rdM T).2.sts.map (mapSt πF) }) := by
    unfold fileR
    rw [if_neg (by rw [b2]; simp), go_plain fs y (by rw [hd2]; exact noInc_of T hT.inc) 4999 0 _ _ (Nat.zero_le _) (by rw [hd2]; omega), hn2, hd2, ei]
    unfold fltOf
    simp only [hT.ok]
    rfl
  rw [f1] at s1
  have s2 := inc_step fs 4998 x 7 10 12 15 x ⟨#[109]⟩ ((bg0.set x true).set y true) { (rdM T).2 with sts := (rdM T).2.sts.map (mapSt πF) } w2 ho (by decide +kernel) hfx
  have f2 : fileR fs 4998 x ((bg0.set x true).set y true) { (rdM T).2 with sts := (rdM T).2.sts.map (mapSt πF) } = (noFlt, (bg0.set x true).set y true, { (rdM T).2 with sts := (rdM T).2.sts.map (mapSt πF) }) := by unfold fileR; rw [if_pos b3]
  rw [f2] at s2
  have s3 := inc_step fs 4997 x 15 18 20 23 y ⟨#[105]⟩ ((bg0.set x true).set y true) { (rdM T).2 with sts := (rdM T).2.sts.map (mapSt πF) } w3 ho (by decide +kernel) hfy
  have f3 : fileR fs 4997 y ((bg0.set x true).set y true) { (rdM T).2 with sts := (rdM T).2.sts.map (mapSt πF) } = (noFlt, (bg0.set x true).set y true, { (rdM T).2 with sts := (rdM T).2.sts.map (mapSt πF) }) := by unfold fileR; rw [if_pos b4]
  rw [f3] at s3
  have g1 := go_on fs 4999 x 0 (bg0.set x true) emptyDb w1.w1 (by rw [s1]; rfl)
  have g2 := go_on fs 4998 x 7 ((bg0.set x true).set y true) { (rdM T).2 with sts := (rdM T).2.sts.map (mapSt πF) } w2.w1 (by rw [s2]; rfl)
  have g3 := go_on fs 4997 x 15 ((bg0.set x true).set y true) { (rdM T).2 with sts := (rdM T).2.sts.map (mapSt πF) } w3.w1 (by rw [s3]; rfl)
  rw [s1] at g1
  rw [s2] at g2
  rw [s3] at g3
  have hn24 : nextF (fileDt fs x) 23 = nextF (fileDt fs x) 24 := by
    have := (next_pre pr 23 (by rw [hdI_size]; omega) (by rw [incEnd.2]; simp)).2 incEnd.1
    rw [hdI_size] at this
    rw [hd]; exact this
  have g4 := readGo_congr fs 4997 x 23 24 ((bg0.set x true).set y true) { (rdM T).2 with sts := (rdM T).2.sts.map (mapSt πF) } hn24
  have g5 := go_from fs x 24 (by rw [hd]; exact tail_noInc T c _ _ kt hc) 4997 24 ((bg0.set x true).set y true) { (rdM T).2 with sts := (rdM T).2.sts.map (mapSt πF) } (Nat.le_refl _) (by rw [hd]; omega) (by rw [hd]; omega)
  have tr := tail_read T c (litI ++ c) 24 hT kt kl.2 πF
  have eδ : lineAt (litI ++ c) 24 - (lineAt T T.size + 1) = 1 - lineAt T T.size := by rw [kl.1]; omega
  have ft := fltTail_of T c (litI ++ c) 24 hT kt kl.2
  rw [eδ] at tr ft
  have fin : readAll fs x = (fltOf ⟨#[109]⟩ (litI ++ c) (shQ (T.size + 1) 24 (rdM (T ++ ⟨#[10]⟩ ++ c)).1), (bg0.set x true).set y true, mapDb (fun i => if i < (rdM T).2.sts.length then πF else πL (1 - lineAt T T.size)) (rdM (T ++ ⟨#[10]⟩ ++ c)).2) := by
    rw [e0]
    refine g1.trans ?_
    refine g2.trans ?_
    refine g3.trans ?_
    rw [g4, g5, hn, hd, tr]
  rw [fin]
  exact ⟨ft, rfl⟩

end Go.Proofs.YtcipkfhpcbddiaaGreat
