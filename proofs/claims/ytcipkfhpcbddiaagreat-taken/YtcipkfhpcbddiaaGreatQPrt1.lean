import Derived.Test.YtcipkfhpcbddiaaGreatG16
import Derived.Test.YtcipkfhpcbddiaaGreatQPuV
import Derived.Test.YtcipkfhpcbddiaaGreatQPuP
import Derived.Test.YtcipkfhpcbddiaaGreatQSeeC
import Derived.Test.YtcipkfhpcbddiaaGreatQKEq2
/- Parted: what see says of the three texts; their rows. -/
namespace Go.Proofs.YtcipkfhpcbddiaaGreat
open Go.RowKit

/-- see, where reading says this. -/
theorem see_rd (b x : Nat) (T t U : ByteArray) (δ : Int) (o : Option Nat) (fs fs' : List (ByteArray × ByteArray)) (w : World) (hW : WorldAt w b x T o) (hV : SomeAt w x fs) (hx : x ≠ b) (ht : ¬ 1024 < t.size) (hp : putF fs ⟨#[109]⟩ t = (0, fs')) (h0 : findF fs' ⟨#[109]⟩ = 0) (hl : 0 < fs'.length) (hok : FilesOk fs')
    (hR : (readAll fs' 0).1 = fltTail U δ) :
    Calls Tryz.prog 18 #[.pointer (some ⟨b, 0, none⟩), .string t] w fun e w' => CoreSays b x T o fs' (rdM U).1.1 (lineAt U (rdM U).1.2 + δ) (colAt U (rdM U).1.2) (readAll fs' 0).2.2.sts w e w' := by
  refine see_core b x T t o fs fs' _ _ _ _ w hW hV hx ht hp (read_rec fs' hok 0).ok.len ?_
  intro w' hv
  refine (verify_any x 0 fs' ⟨#[109]⟩ w' hv h0 hl hok).mono ?_
  rintro e w'' ⟨hc, hK⟩
  refine ⟨?_, hK⟩
  rw [hR] at hc
  unfold fltTail at hc
  cases hr : ((rdM U).1.1 == 0) with
  | true =>
    simp only [hr, if_true] at hc ⊢
    rw [if_pos (by rfl)] at hc
    exact hc
  | false =>
    simp only [hr, Bool.false_eq_true, if_false] at hc ⊢
    exact hc

theorem put_only (fs : List (ByteArray × ByteArray)) (t : ByteArray) (h : fs = [] ∨ ∃ u, fs = [(⟨#[109]⟩, u)]) (ht : ¬ 1024 < t.size) : putF fs ⟨#[109]⟩ t = (0, [(⟨#[109]⟩, t)]) := by
  have hc : checkF ⟨#[109]⟩ t = 0 := by simp [checkF, mName_is, ht]
  rcases h with rfl | ⟨u, rfl⟩
  · simp [putF, hc, findF, findFrom]
  · simp [putF, hc, findF, findFrom]
theorem iName_is : isNameF ⟨#[105]⟩ = true := by decide +kernel
theorem im_ne : ((⟨#[109]⟩ : ByteArray).toList == (⟨#[105]⟩ : ByteArray).toList) = false ∧ ((⟨#[105]⟩ : ByteArray).toList == (⟨#[109]⟩ : ByteArray).toList) = false := by decide +kernel
theorem put_i (u T : ByteArray) (hT : T.size ≤ 1024) : putF [(⟨#[109]⟩, u)] ⟨#[105]⟩ T = (0, [(⟨#[109]⟩, u), (⟨#[105]⟩, T)]) := by
  have hc : checkF ⟨#[105]⟩ T = 0 := by
    unfold checkF
    rw [if_neg (by rw [iName_is]; simp), if_neg (by omega)]
  unfold putF
  rw [if_neg (by rw [hc]; simp)]
  have hf : findF [(⟨#[109]⟩, u)] ⟨#[105]⟩ = -1 := by
    simp only [findF, findFrom, im_ne.1]; simp
  rw [hf]
  simp
theorem put_mi (u T t : ByteArray) (ht : ¬ 1024 < t.size) : putF [(⟨#[109]⟩, u), (⟨#[105]⟩, T)] ⟨#[109]⟩ t = (0, [(⟨#[109]⟩, t), (⟨#[105]⟩, T)]) := by
  have hc : checkF ⟨#[109]⟩ t = 0 := by simp [checkF, mName_is, ht]
  simp [putF, hc, findF, findFrom]
theorem find_m (u : ByteArray) (r : List (ByteArray × ByteArray)) : findF ((⟨#[109]⟩, u) :: r) ⟨#[109]⟩ = 0 := by simp [findF, findFrom]
theorem find_i (u T : ByteArray) : findF [(⟨#[109]⟩, u), (⟨#[105]⟩, T)] ⟨#[105]⟩ = 1 := by
  simp only [findF, findFrom, im_ne.1]; simp
theorem files_one (t : ByteArray) (h : ¬ 1024 < t.size) : FilesOk [(⟨#[109]⟩, t)] := by
  rw [filesOk_all]; intro f hf; rw [List.mem_singleton.1 hf]; simp only; omega
theorem files_two (t T : ByteArray) (h : ¬ 1024 < t.size) (hT : T.size ≤ 1024) : FilesOk [(⟨#[109]⟩, t), (⟨#[105]⟩, T)] := by
  rw [filesOk_all]; intro f hf
  simp only [List.mem_cons, List.not_mem_nil, or_false] at hf
  rcases hf with rfl | rfl
  · simp only; omega
  · exact hT
theorem mok_two (t T : ByteArray) (h : ¬ 1024 < t.size) (hT : T.size ≤ 1024) : MOk 1 [(⟨#[109]⟩, t), (⟨#[105]⟩, T)] := ⟨Or.inl ⟨⟨0, by simp, find_m _ _⟩, by simp⟩, files_two t T h hT⟩
theorem mok_one (t : ByteArray) (h : ¬ 1024 < t.size) : MOk 0 [(⟨#[109]⟩, t)] := ⟨Or.inl ⟨⟨0, by simp, find_m _ _⟩, by simp⟩, files_one t h⟩

/-- Reading the text and the chunk. -/
theorem read_U (U : ByteArray) (hs : ¬ 1024 < U.size) (hi : holdsF U = false) : (readAll [(⟨#[109]⟩, U)] 0).1 = fltTail U 0 ∧ (readAll [(⟨#[109]⟩, U)] 0).2.2.sts = (rdM U).2.sts := by
  have hp := readAll_plain [(⟨#[109]⟩, U)] 0 (by omega) (by show U.size ≤ 1024; omega) (noInc_of U hi)
  rw [hp]
  refine ⟨?_, rfl⟩
  show fltOf ⟨#[109]⟩ U (rdM U).1 = _
  unfold fltOf fltTail plAt
  split
  · rfl
  · simp

theorem mapRw_id (L : List Rw) : L.map (mapRw (fun p => p)) = L := by
  have : mapRw (fun p => p) = id := rfl
  rw [this, List.map_id]
/-- The rows of the three texts. -/
theorem parted_rows (T c : ByteArray) (hT : Fine T) (hs : ¬ 1024 < (T ++ ⟨#[10]⟩ ++ c).size) (hi : holdsF (T ++ ⟨#[10]⟩ ++ c) = false) :
    ∃ M, rowsM (T ++ ⟨#[10]⟩ ++ c) = rowsM T ++ M ∧
      rowsF (mapSts (fun i => if i < (rdM T).2.sts.length then (fun p => p) else πL 1) (rdM (T ++ ⟨#[10]⟩ ++ c)).2.sts) = rowsM T ++ M.map (mapRw (πL 1)) ∧
      ∀ δ, rowsF (mapSts (fun i => if i < (rdM T).2.sts.length then πF else πL δ) (rdM (T ++ ⟨#[10]⟩ ++ c)).2.sts) = (rowsM T).map (mapRw πF) ++ M.map (mapRw (πL δ)) := by
  obtain ⟨m, hm⟩ := more_sts T c hT
  have gU := rdM_rec (T ++ ⟨#[10]⟩ ++ c) (by omega) hi
  have gT := hT.good
  rw [hm] at gU
  have key := fun π₁ π₂ h1 h2 => rows_map π₁ π₂ h1 h2 (rdM T).2.sts m gU.ok gU.prf gT.ok gT.prf
  obtain ⟨M, e1, e2⟩ := key (fun p => p) (πL 1) id_map (πL_map 1)
  refine ⟨M, ?_, ?_, ?_⟩
  · unfold rowsM; rw [hm]; exact e1
  · rw [hm, e2, mapRw_id]; rfl
  · intro δ
    obtain ⟨M', e3, e4⟩ := key πF (πL δ) πF_map (πL_map δ)
    have : M' = M := List.append_cancel_left (e3.symm.trans e1)
    subst this
    rw [hm]; exact e4

def adrO : Option Nat → Option Addr
  | none => none
  | some g => some ⟨g, 0, none⟩
theorem sl_eq {w : World} {o : Option Nat} {L : List Rw} (h : RowsAt w o L) : rowsSl o L.length = .slice (adrO o) L.length L.length := by
  cases o with
  | none => have hn : L = [] := h
            subst hn; rfl
  | some g => rfl

end Go.Proofs.YtcipkfhpcbddiaaGreat
