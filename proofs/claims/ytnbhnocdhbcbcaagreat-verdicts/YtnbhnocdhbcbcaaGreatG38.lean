import Derived.Test.YtnbhnocdhbcbcaaGreatChecked
import Derived.Test.YtnbhnocdhbcbcaaGreatRows
import Derived.ProofKit
import Derived.OpenShut
import Derived.ShutString
import Derived.ChangeOld
import Derived.Below
import Derived.SizedLaws
namespace Go.Proofs.YtnbhnocdhbcbcaaGreat
open Go.RowKit
set_option maxHeartbeats 0
section
open Go.ChangeShapes Go.WideShapes Go.ChangeAt
theorem Rz:(Rows.verdictsRow.inPlace==Tryz.prog.inPlace 3)=true:=by kernel_rfl
theorem RB:(Rows.verdictsRow.unfollowed==Tryz.prog.unfollowed 3)=true:=by kernel_rfl
theorem RC:(Rows.verdictsRow.recurses==Tryz.prog.recurses 3)=true:=by kernel_rfl
theorem RG:(Rows.verdictsRow.named==Tryz.prog.varsNamed 3)=true:=by kernel_rfl
theorem RH:laidOutB Tryz.prog=true:=by kernel_rfl
theorem RI:mapsRowed Tryz.prog=true:=by kernel_rfl
theorem fP{a b:Bool}(h:a=true)(k:b=true):(a&&b)=true:=by rw[h,k];rfl
set_option maxRecDepth 100000 in
theorem yK:joinedFacts Tryz.prog 3 Tryz.f3 Rows.verdictsSpec Rows.verdictsRow=true:=by
 unfold joinedFacts;exact fP (fP (fP (fP (fP (fP (fP (fP (fP (fP (fP (fP (fP (fP (fP (fP (fP (fP (fP (fP (fP (fP (fP (fP (fP (fP (fP (fP (fP (fP (fP (by as_aux_lemma=>kernel_rfl) RH) RI) (by as_aux_lemma=>kernel_rfl)) (by as_aux_lemma=>kernel_rfl)) (by as_aux_lemma=>kernel_rfl)) (by as_aux_lemma=>kernel_rfl)) (by as_aux_lemma=>kernel_rfl)) (by as_aux_lemma=>kernel_rfl)) Rz) RB) RC) RG) (by as_aux_lemma=>kernel_rfl)) (by as_aux_lemma=>kernel_rfl)) (by as_aux_lemma=>kernel_rfl)) (by as_aux_lemma=>kernel_rfl)) (by as_aux_lemma=>kernel_rfl)) (by as_aux_lemma=>kernel_rfl)) (by as_aux_lemma=>kernel_rfl)) (by as_aux_lemma=>kernel_rfl)) (by as_aux_lemma=>kernel_rfl)) (by as_aux_lemma=>kernel_rfl)) (by as_aux_lemma=>kernel_rfl)) (by as_aux_lemma=>kernel_rfl)) (by as_aux_lemma=>kernel_rfl)) (by as_aux_lemma=>kernel_rfl)) (by as_aux_lemma=>kernel_rfl)) (by as_aux_lemma=>kernel_rfl)) (by as_aux_lemma=>kernel_rfl)) (by as_aux_lemma=>kernel_rfl)) (by as_aux_lemma=>kernel_rfl)
def sO:Prop:=∀(os:Os) (_:os.Started) (H:Type) (enc:TypeId×Value->H),
  ReturnsInHanded {} Tryz.checked os 3 .any (Rows.verdictsSpec.pre6 enc Tryz.prog Tryz.f3 Rows.verdictsRow.domain false) (Rows.verdictsSpec.post enc Tryz.prog Tryz.f3 false true false false)
theorem Bl(X:sO):Rows.VerdictsSaid :=
 OpenClaim.holds_of_wide 3 Tryz.f3 rfl rfl rfl rfl rfl rfl rfl ⟨rfl,rfl,rfl,rfl,rfl⟩ rfl rfl rfl rfl rfl (by as_aux_lemma=>kernel_rfl) Tryz.func3 yK
  (of_decide_eq_true (by as_aux_lemma=>kernel_rfl)) (by unfold Func.isWrapper;first | (rw[if_pos (by decide +kernel)];kernel_rfl) | (rw[if_neg (by decide +kernel)];exact⟨rfl,rfl⟩))
  (fun os started H enc _=>X os started H enc)
end
end Go.Proofs.YtnbhnocdhbcbcaaGreat
