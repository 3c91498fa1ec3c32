import Derived.Test.YtcipkfhpcbddiaaGreatQPrt1
import Derived.Test.YtcipkfhpcbddiaaGreatQMoved
/- Parted: what is read, said once. -/
namespace Go.Proofs.YtcipkfhpcbddiaaGreat
open Go.RowKit

theorem nm_one (n u : ByteArray) (r : List (ByteArray × ByteArray)) : fileNm ((n, u) :: r) 0 = n ∧ fileDt ((n, u) :: r) 0 = u := by
  unfold fileNm fileDt; exact ⟨rfl, rfl⟩
theorem nm_two (n u m v : ByteArray) : fileNm [(n, u), (m, v)] 1 = m ∧ fileDt [(n, u), (m, v)] 1 = v := by
  unfold fileNm fileDt; exact ⟨rfl, rfl⟩
theorem read_K1 (T c : ByteArray) (hT : Fine T) (hh : holdsF c = false) (hk : ¬ 1024 < (T ++ litC ++ c).size) : (readAll [(⟨#[109]⟩, T ++ litC ++ c)] 0).1 = fltTail (T ++ ⟨#[10]⟩ ++ c) 1 ∧ (readAll [(⟨#[109]⟩, T ++ litC ++ c)] 0).2.2.sts = mapSts (fun i => if i < (rdM T).2.sts.length then (fun p => p) else πL 1) (rdM (T ++ ⟨#[10]⟩ ++ c)).2.sts :=
  read_K T c hT hh _ 0 (by omega) (nm_one _ _ _).1 (nm_one _ _ _).2 (by omega)
theorem read_I1 (T c : ByteArray) (hT : Fine T) (hh : holdsF c = false) (hI : ¬ 1024 < (litI ++ c).size) : (readAll [(⟨#[109]⟩, litI ++ c), (⟨#[105]⟩, T)] 0).1 = fltTail (T ++ ⟨#[10]⟩ ++ c) (1 - lineAt T T.size) ∧ (readAll [(⟨#[109]⟩, litI ++ c), (⟨#[105]⟩, T)] 0).2.2.sts = mapSts (fun i => if i < (rdM T).2.sts.length then πF else πL (1 - lineAt T T.size)) (rdM (T ++ ⟨#[10]⟩ ++ c)).2.sts :=
  read_I T c hT hh _ 0 1 (Or.inl ⟨rfl, rfl⟩) (nm_one _ _ _).1 (nm_one _ _ _).2 (nm_two _ _ _ _).1 (nm_two _ _ _ _).2 (find_m _ _) (find_i _ _) (by omega)
theorem see_U (b x : Nat) (T U : ByteArray) (o : Option Nat) (fs : List (ByteArray × ByteArray)) (w : World) (hW : WorldAt w b x T o) (hV : SomeAt w x fs) (hx : x ≠ b) (hM : MOk 0 fs) (hl : ¬ 1024 < U.size) (hi : holdsF U = false) :
    Calls Tryz.prog 18 #[.pointer (some ⟨b, 0, none⟩), .string U] w fun e w' => CoreSays b x T o [(⟨#[109]⟩, U)] (rdM U).1.1 (lineAt U (rdM U).1.2) (colAt U (rdM U).1.2) (rdM U).2.sts w e w' := by
  have rU := read_U U hl hi
  have SU := see_rd b x T U U 0 o fs _ w hW hV hx hl (put_only fs _ (mok0 hM.1) hl) (find_m _ _) (by simp) (files_one _ hl) rU.1
  rw [rU.2, Int.add_zero] at SU
  exact SU
theorem see_one (b x : Nat) (T K U u : ByteArray) (δ : Int) (l : List St) (o : Option Nat) (w : World) (hW : WorldAt w b x T o) (hV : SomeAt w x [(⟨#[109]⟩, u)]) (hx : x ≠ b) (hk : ¬ 1024 < K.size) (rK : (readAll [(⟨#[109]⟩, K)] 0).1 = fltTail U δ ∧ (readAll [(⟨#[109]⟩, K)] 0).2.2.sts = l) :
    Calls Tryz.prog 18 #[.pointer (some ⟨b, 0, none⟩), .string K] w fun e w' => CoreSays b x T o [(⟨#[109]⟩, K)] (rdM U).1.1 (lineAt U (rdM U).1.2 + δ) (colAt U (rdM U).1.2) l w e w' := by
  have SK := see_rd b x T K U δ o _ _ w hW hV hx hk (put_only _ _ (Or.inr ⟨_, rfl⟩) hk) (find_m _ _) (by simp) (files_one _ hk) rK.1
  rw [rK.2] at SK
  exact SK
theorem see_two (b x : Nat) (T K U u : ByteArray) (δ : Int) (l : List St) (o : Option Nat) (w : World) (hW : WorldAt w b x T o) (hV : SomeAt w x [(⟨#[109]⟩, u), (⟨#[105]⟩, T)]) (hx : x ≠ b) (hTs : T.size ≤ 1024) (hk : ¬ 1024 < K.size) (rK : (readAll [(⟨#[109]⟩, K), (⟨#[105]⟩, T)] 0).1 = fltTail U δ ∧ (readAll [(⟨#[109]⟩, K), (⟨#[105]⟩, T)] 0).2.2.sts = l) :
    Calls Tryz.prog 18 #[.pointer (some ⟨b, 0, none⟩), .string K] w fun e w' => CoreSays b x T o [(⟨#[109]⟩, K), (⟨#[105]⟩, T)] (rdM U).1.1 (lineAt U (rdM U).1.2 + δ) (colAt U (rdM U).1.2) l w e w' := by
  have SI := see_rd b x T K U δ o _ _ w hW hV hx hk (put_mi _ T K hk) (find_m _ _) (by simp) (files_two _ T hk hTs) rK.1
  rw [rK.2] at SI
  exact SI
/-- All that parted sees, said of the texts as it writes them. U, K, I: the text and the chunk; a comment between; the text included. -/
structure Sees (b x : Nat) (T c U K I : ByteArray) (o : Option Nat) (r ln cl : Int) (RU RK RI : List Rw) : Prop where
  u : ¬ 1024 < U.size → ∀ (fs : List (ByteArray × ByteArray)) (w : World), MOk 0 fs → WorldAt w b x T o → SomeAt w x fs → Calls Tryz.prog 18 #[.pointer (some ⟨b, 0, none⟩), .string U] w fun e w' => ∃ l, rowsF l = RU ∧ CoreSays b x T o [(⟨#[109]⟩, U)] r ln cl l w e w'
  k : ¬ 1024 < K.size → ∀ (v : ByteArray) (w : World), WorldAt w b x T o → SomeAt w x [(⟨#[109]⟩, v)] → Calls Tryz.prog 18 #[.pointer (some ⟨b, 0, none⟩), .string K] w fun e w' => ∃ l, rowsF l = RK ∧ CoreSays b x T o [(⟨#[109]⟩, K)] r (ln + 1) cl l w e w'
  i : ¬ 1024 < I.size → ∀ (v : ByteArray) (w : World), WorldAt w b x T o → SomeAt w x [(⟨#[109]⟩, v), (⟨#[105]⟩, T)] → Calls Tryz.prog 18 #[.pointer (some ⟨b, 0, none⟩), .string I] w fun e w' => ∃ l, rowsF l = RI ∧ CoreSays b x T o [(⟨#[109]⟩, I), (⟨#[105]⟩, T)] r (ln + (1 - lineAt T T.size)) cl l w e w'
  sk : K.size = T.size + 23 + c.size
  si : I.size = 24 + c.size
  su : U.size = T.size + 1 + c.size
theorem sees (b x : Nat) (T c U K I : ByteArray) (o : Option Nat) (hx : x ≠ b) (hT : Fine T) (hh : holdsF c = false) (eU : T ++ ⟨#[10]⟩ ++ c = U) (eK : T ++ litC ++ c = K) (eI : litI ++ c = I) (hl : ¬ 1024 < U.size) :
    ∃ M, rowsM U = rowsM T ++ M ∧ Sees b x T c U K I o (rdM U).1.1 (lineAt U (rdM U).1.2) (colAt U (rdM U).1.2) (rowsM T ++ M) (rowsM T ++ M.map (mapRw (πL 1))) ((rowsM T).map (mapRw πF) ++ M.map (mapRw (πL (1 - lineAt T T.size)))) := by
  have hUi : holdsF U = false := by rw [← eU]; exact holds_more T c hT.inc hh
  have hrows : ∃ M, rowsM U = rowsM T ++ M ∧ rowsF (mapSts (fun i => if i < (rdM T).2.sts.length then (fun p => p) else πL 1) (rdM U).2.sts) = rowsM T ++ M.map (mapRw (πL 1)) ∧ ∀ δ, rowsF (mapSts (fun i => if i < (rdM T).2.sts.length then πF else πL δ) (rdM U).2.sts) = (rowsM T).map (mapRw πF) ++ M.map (mapRw (πL δ)) := by
    subst eU; exact parted_rows T c hT hl hUi
  have rK : ¬ 1024 < K.size → (readAll [(⟨#[109]⟩, K)] 0).1 = fltTail U 1 ∧ (readAll [(⟨#[109]⟩, K)] 0).2.2.sts = mapSts (fun i => if i < (rdM T).2.sts.length then (fun p => p) else πL 1) (rdM U).2.sts := by
    subst eK eU; exact read_K1 T c hT hh
  have rI : ¬ 1024 < I.size → (readAll [(⟨#[109]⟩, I), (⟨#[105]⟩, T)] 0).1 = fltTail U (1 - lineAt T T.size) ∧ (readAll [(⟨#[109]⟩, I), (⟨#[105]⟩, T)] 0).2.2.sts = mapSts (fun i => if i < (rdM T).2.sts.length then πF else πL (1 - lineAt T T.size)) (rdM U).2.sts := by
    subst eI eU; exact read_I1 T c hT hh
  have sK : K.size = T.size + 23 + c.size := by subst eK; exact K_size T c
  have sI : I.size = 24 + c.size := by subst eI; exact I_size c
  have sU : U.size = T.size + 1 + c.size := by subst eU; simp only [ByteArray.size_append]; rfl
  clear eU eK eI
  obtain ⟨M, h1, h2, h3⟩ := hrows
  refine ⟨M, h1, ⟨?_, ?_, ?_, sK, sI, sU⟩⟩
  · intro _ fs w hM hW hV
    exact (see_U b x T U o fs w hW hV hx hM hl hUi).mono (fun e w' h => ⟨_, h1, h⟩)
  · intro hk v w hW hV
    exact (see_one b x T K U v 1 _ o w hW hV hx hk (rK hk)).mono (fun e w' h => ⟨_, h2, h⟩)
  · intro hI v w hW hV
    exact (see_two b x T I U v _ _ o w hW hV hx hT.size hI (rI hI)).mono (fun e w' h => ⟨_, h3 _, h⟩)

end Go.Proofs.YtcipkfhpcbddiaaGreat
