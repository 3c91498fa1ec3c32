/- Package statements: what a statement declares. -/
import Derived.Test.YtkblmflajfomaaaDb6
namespace Go.Proofs.Ytkblmflajfomaaa
open Go.RowKit

def declStep (d : Db) (i : Nat) (x : ByteArray) : Db :=
  if (d.kind == 2) = true then { d with constants := d.constants ++ [x] }
  else if (d.kind == 3) = true then addVariableF d x
  else if (d.kind == 5) = true ∧ i = 1 then { d with typed := d.typed ++ [x] }
  else d
def declTo (d : Db) : Nat → Db
  | 0 => d
  | k + 1 => declStep (declTo d k) k (d.symbols.getD k ⟨#[]⟩)
def declareF (d : Db) : Db := declTo d d.symbols.length

theorem addVariableF_plain (d : Db) (x : ByteArray) : (addVariableF d x).symbols = d.symbols ∧ (addVariableF d x).kind = d.kind ∧ (addVariableF d x).blocks = d.blocks ∧ (addVariableF d x).labels = d.labels ∧ (addVariableF d x).constants = d.constants ∧ (addVariableF d x).typed = d.typed ∧
    (addVariableF d x).active.length = d.active.length + 1 ∧ (addVariableF d x).variables.length ≤ d.variables.length + 1 ∧ (addVariableF d x).inProof = d.inProof := by
  unfold addVariableF; split <;> simp
theorem declStep_plain (d : Db) (i : Nat) (x : ByteArray) : (declStep d i x).symbols = d.symbols ∧ (declStep d i x).kind = d.kind ∧ (declStep d i x).blocks = d.blocks ∧ (declStep d i x).labels = d.labels ∧ (declStep d i x).inProof = d.inProof ∧
    (declStep d i x).constants.length ≤ d.constants.length + 1 ∧ (declStep d i x).typed.length ≤ d.typed.length + 1 ∧ (declStep d i x).active.length ≤ d.active.length + 1 ∧ (declStep d i x).variables.length ≤ d.variables.length + 1 := by
  have a := addVariableF_plain d x
  unfold declStep
  split
  · simp
  · split
    · exact ⟨a.1, a.2.1, a.2.2.1, a.2.2.2.1, a.2.2.2.2.2.2.2.2, by rw [a.2.2.2.2.1]; omega, by rw [a.2.2.2.2.2.1]; omega, by omega, by omega⟩
    · split <;> simp
theorem declTo_plain (d : Db) (k : Nat) : (declTo d k).symbols = d.symbols ∧ (declTo d k).kind = d.kind ∧ (declTo d k).blocks = d.blocks ∧ (declTo d k).labels = d.labels ∧ (declTo d k).inProof = d.inProof ∧
    (declTo d k).constants.length ≤ d.constants.length + k ∧ (declTo d k).typed.length ≤ d.typed.length + k ∧ (declTo d k).active.length ≤ d.active.length + k ∧ (declTo d k).variables.length ≤ d.variables.length + k := by
  induction k with
  | zero => simp [declTo]
  | succ k ih =>
    have a := declStep_plain (declTo d k) k (d.symbols.getD k ⟨#[]⟩)
    simp only [declTo]
    refine ⟨a.1.trans ih.1, a.2.1.trans ih.2.1, a.2.2.1.trans ih.2.2.1, a.2.2.2.1.trans ih.2.2.2.1, a.2.2.2.2.1.trans ih.2.2.2.2.1, ?_, ?_, ?_, ?_⟩ <;> omega

set_option maxHeartbeats 1600000 in
set_option maxRecDepth 100000 in
theorem declare_any (b t o : Nat) (pre post : List Value) (d : Db) (H : Nat → Hd) (w : World) (h : DbIs w b t pre post d H) (ho : pre.length = o) (hs : Small d 100000000) :
    Calls Try.prog 59 #[.pointer (some ⟨b, o, none⟩)] w fun e w' => e = .returned (.tuple #[]) ∧ ∃ H', DbIs w' b t pre post (declareF d) H' ∧ Turned b w H w' H' := by
  go_enter Try.func59, Try.ntmps59
  go_wp2
  go_loopg [2] d.symbols.length (fun g i wr => ∃ (k : Nat) (H1 : Nat → Hd), k ≤ d.symbols.length ∧ g = d.symbols.length - k ∧ i = .int .i64 k ∧ DbIs wr b t pre post (declTo d k) H1 ∧ Turned b w H wr H1)
  case atStart => exact ⟨0, H, by omega, by omega, rfl, h, Turned.refl _ _ _⟩
  case round =>
    obtain ⟨k, H1, hk, hg, rfl, D, T⟩ := hrel
    have pl := declTo_plain d k
    have HN : Hid (declTo d (k + 1) = declStep (declTo d k) k (d.symbols.getD k ⟨#[]⟩)) := rfl
    have hsy := hs.symbols
    have hN1 := hs.constants
    have hN2 := hs.typed
    have hN3 := hs.active
    have hN4 := hs.variables
    by_cases hlt : k < d.symbols.length
    · have hx : d.symbols.getD k ⟨#[]⟩ = d.symbols[k] := by rw [List.getD_eq_getElem?_getD, List.getElem?_eq_getElem hlt]; rfl
      have hxs := strs_at d.symbols k hlt
      rw [hx] at HN
      generalize d.symbols[k] = x at *
      generalize hsl : d.symbols = sy at *
      generalize declTo d k = dk at *
      obtain ⟨la, co, va, ac, ty, bl, kd, sy', ip⟩ := dk
      simp only at pl
      obtain ⟨rfl, -, -, -, -, p1, p2, p3, p4⟩ := pl
      clear hx hsl
      have hw6 : Owns wr (H1 6) (rowS sy') := D.own 6 (by omega)
      rcases hw6.ways with ⟨_, h0, _⟩ | ⟨g, cur, e1, e2, e3, e4, -⟩
      · have : sy'.length = 0 := h0
        omega
      · have c1 := hw6.cell e1 k (.string x) hxs
        obtain ⟨q0, q1, q2, q3, q4, q5, q6, q7, q8⟩ := D.cells o ho
        simp only at q6 q7
        rw [e1] at q7
        clear q0 q1 q2 q3 q4 q5 q8 e2 e3 e4 hxs
        cases h2 : (kd == 2)
        · cases h3 : (kd == 3)
          · cases h5 : (kd == 5)
            · have HD : Hid (declTo d (k + 1) = ⟨la, co, va, ac, ty, bl, kd, sy', ip⟩) := by show declTo d (k + 1) = _; rw [HN.out]; simp [declStep, h2, h3, h5]
              clear HN hw6
              go_wp2
              go_roundg (sy'.length - (k + 1))
              case measure => omega
              case rel => exact ⟨k + 1, H1, by omega, rfl, by go_num, by rw [HD.out]; exact D, T⟩
            · by_cases hk1 : k = 1
              · subst hk1
                have HD : Hid (declTo d (1 + 1) = { (⟨la, co, va, ac, ty, bl, kd, sy', ip⟩ : Db) with typed := ty ++ [x] }) := by show declTo d (1 + 1) = _; rw [HN.out]; simp [declStep, h2, h3, h5]
                clear HN hw6
                go_wp2_with fail
                go_region_with (go_at_call 72; refine (addTyped_any b t o pre post _ H1 x _ (by exact D.still (Kept.refl [] _).drew) ho (by simp only; omega)).mono ?_; rintro e w3 ⟨rfl, H3, D3, T3⟩)
                all_goals go_wp2
                all_goals
                  go_roundg (sy'.length - (1 + 1))
                  case measure => omega
                  case rel => exact ⟨1 + 1, H3, by omega, rfl, by go_num, by rw [HD.out]; exact D3, T.trans (T3.first (Kept.refl [] _).drew)⟩
              · have HD : Hid (declTo d (k + 1) = ⟨la, co, va, ac, ty, bl, kd, sy', ip⟩) := by show declTo d (k + 1) = _; rw [HN.out]; simp [declStep, h2, h3, hk1]
                have hk1' : ((k : Int) == 1) = false := by simp; omega
                clear HN hw6 hk1
                go_wp2
                go_roundg (sy'.length - (k + 1))
                case measure => omega
                case rel => exact ⟨k + 1, H1, by omega, rfl, by go_num, by rw [HD.out]; exact D, T⟩
          · have HD : Hid (declTo d (k + 1) = addVariableF ⟨la, co, va, ac, ty, bl, kd, sy', ip⟩ x) := by show declTo d (k + 1) = _; rw [HN.out]; simp [declStep, h2, h3]
            clear HN hw6
            go_wp2_with fail
            go_region_with (go_at_call 71; refine (addVariable_any b t o pre post _ H1 x _ (by exact D.still (Kept.refl [] _).drew) ho (by simp only; omega) (by simp only; omega)).mono ?_; rintro e w3 ⟨rfl, H3, D3, T3⟩)
            all_goals go_wp2
            all_goals
              go_roundg (sy'.length - (k + 1))
              case measure => omega
              case rel => exact ⟨k + 1, H3, by omega, rfl, by go_num, by rw [HD.out]; exact D3, T.trans (T3.first (Kept.refl [] _).drew)⟩
        · have HD : Hid (declTo d (k + 1) = { (⟨la, co, va, ac, ty, bl, kd, sy', ip⟩ : Db) with constants := co ++ [x] }) := by show declTo d (k + 1) = _; rw [HN.out]; simp [declStep, h2]
          clear HN hw6
          go_wp2_with fail
          go_region_with (go_at_call 70; refine (addConstant_any b t o pre post _ H1 x _ (by exact D.still (Kept.refl [] _).drew) ho (by simp only; omega)).mono ?_; rintro e w3 ⟨rfl, H3, D3, T3⟩)
          all_goals go_wp2
          all_goals
            go_roundg (sy'.length - (k + 1))
            case measure => omega
            case rel => exact ⟨k + 1, H3, by omega, rfl, by go_num, by rw [HD.out]; exact D3, T.trans (T3.first (Kept.refl [] _).drew)⟩
    · have HD : Hid (declareF d = declTo d k) := by show declareF d = _; rw [declareF, show d.symbols.length = k by omega]
      clear HN
      obtain ⟨q0, q1, q2, q3, q4, q5, q6, q7, q8⟩ := D.cells o ho
      rw [pl.1] at q7
      clear q0 q1 q2 q3 q4 q5 q6 q8 pl
      go_wp2
      go_end0
      exact ⟨rfl, H1, by rw [HD.out]; exact D, T⟩

end Go.Proofs.Ytkblmflajfomaaa
