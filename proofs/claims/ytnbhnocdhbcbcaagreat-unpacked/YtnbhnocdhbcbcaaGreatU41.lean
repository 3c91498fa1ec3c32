import Derived.Test.YtnbhnocdhbcbcaaGreatChecked
import Derived.Test.YtnbhnocdhbcbcaaGreatRows
import Derived.ProofKit
import Derived.OpenShut
import Derived.ShutString
import Derived.ChangeOld
import Derived.Below
import Derived.SizedLaws
namespace Go.Proofs.YtnbhnocdhbcbcaaGreat
open Go.RowKit
set_option maxHeartbeats 0
section
open Go.ChangeShapes Go.WideShapes Go.ChangeAt
theorem TQ:(Rows.unpackedRow.inPlace==Tryz.prog.inPlace 5)=true:=by kernel_rfl
theorem TR:(Rows.unpackedRow.unfollowed==Tryz.prog.unfollowed 5)=true:=by kernel_rfl
theorem TT:(Rows.unpackedRow.recurses==Tryz.prog.recurses 5)=true:=by kernel_rfl
theorem TU:(Rows.unpackedRow.named==Tryz.prog.varsNamed 5)=true:=by kernel_rfl
theorem TV:laidOutB Tryz.prog=true:=by kernel_rfl
theorem TY:mapsRowed Tryz.prog=true:=by kernel_rfl
theorem gg{a b:Bool}(h:a=true)(k:b=true):(a&&b)=true:=by rw[h,k];rfl
set_option maxRecDepth 100000 in
theorem zU:joinedFacts Tryz.prog 5 Tryz.f5 Rows.unpackedSpec Rows.unpackedRow=true:=by
 unfold joinedFacts;exact gg (gg (gg (gg (gg (gg (gg (gg (gg (gg (gg (gg (gg (gg (gg (gg (gg (gg (gg (gg (gg (gg (gg (gg (gg (gg (gg (gg (gg (gg (gg (by as_aux_lemma=>kernel_rfl) TV) TY) (by as_aux_lemma=>kernel_rfl)) (by as_aux_lemma=>kernel_rfl)) (by as_aux_lemma=>kernel_rfl)) (by as_aux_lemma=>kernel_rfl)) (by as_aux_lemma=>kernel_rfl)) (by as_aux_lemma=>kernel_rfl)) TQ) TR) TT) TU) (by as_aux_lemma=>kernel_rfl)) (by as_aux_lemma=>kernel_rfl)) (by as_aux_lemma=>kernel_rfl)) (by as_aux_lemma=>kernel_rfl)) (by as_aux_lemma=>kernel_rfl)) (by as_aux_lemma=>kernel_rfl)) (by as_aux_lemma=>kernel_rfl)) (by as_aux_lemma=>kernel_rfl)) (by as_aux_lemma=>kernel_rfl)) (by as_aux_lemma=>kernel_rfl)) (by as_aux_lemma=>kernel_rfl)) (by as_aux_lemma=>kernel_rfl)) (by as_aux_lemma=>kernel_rfl)) (by as_aux_lemma=>kernel_rfl)) (by as_aux_lemma=>kernel_rfl)) (by as_aux_lemma=>kernel_rfl)) (by as_aux_lemma=>kernel_rfl)) (by as_aux_lemma=>kernel_rfl)) (by as_aux_lemma=>kernel_rfl)
def tH:Prop:=∀(os:Os) (_:os.Started) (H:Type) (enc:TypeId×Value->H),
  ReturnsInHanded {} Tryz.checked os 5 .any (Rows.unpackedSpec.pre6 enc Tryz.prog Tryz.f5 Rows.unpackedRow.domain false) (Rows.unpackedSpec.post enc Tryz.prog Tryz.f5 false true false false)
theorem CA(X:tH):Rows.UnpackedSaid :=
 OpenClaim.holds_of_wide 5 Tryz.f5 rfl rfl rfl rfl rfl rfl rfl ⟨rfl,rfl,rfl,rfl,rfl⟩ rfl rfl rfl rfl rfl (by as_aux_lemma=>kernel_rfl) Tryz.func5 zU
  (of_decide_eq_true (by as_aux_lemma=>kernel_rfl)) (by unfold Func.isWrapper;first | (rw[if_pos (by decide +kernel)];kernel_rfl) | (rw[if_neg (by decide +kernel)];exact⟨rfl,rfl⟩))
  (fun os started H enc _=>X os started H enc)
end
end Go.Proofs.YtnbhnocdhbcbcaaGreat
