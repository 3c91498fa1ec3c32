import Derived.Test.YtpddjjabfbfifaaGreatChecked
import Derived.Test.YtpddjjabfbfifaaGreatRows
import Derived.ProofKit
import Derived.OpenShut
import Derived.ShutString
import Derived.ChangeOld
import Derived.Below
import Derived.SizedLaws
namespace Go.Proofs.YtpddjjabfbfifaaGreat
open Go.RowKit
set_option maxHeartbeats 0
section
open Go.ChangeShapes Go.WideShapes Go.ChangeAt
theorem Ov:(Rows.faultsRow.inPlace==Tryz.prog.inPlace 3)=true:=by kernel_rfl
theorem Ow:(Rows.faultsRow.unfollowed==Tryz.prog.unfollowed 3)=true:=by kernel_rfl
theorem Ox:(Rows.faultsRow.recurses==Tryz.prog.recurses 3)=true:=by kernel_rfl
theorem Oy:(Rows.faultsRow.named==Tryz.prog.varsNamed 3)=true:=by kernel_rfl
theorem QI:laidOutB Tryz.prog=true:=by kernel_rfl
theorem QJ:mapsRowed Tryz.prog=true:=by kernel_rfl
theorem jU{a b:Bool}(h:a=true)(k:b=true):(a&&b)=true:=by rw[h,k];rfl
set_option maxRecDepth 100000 in
theorem BN:joinedFacts Tryz.prog 3 Tryz.f3 Rows.faultsSpec Rows.faultsRow=true:=by
 unfold joinedFacts;exact jU (jU (jU (jU (jU (jU (jU (jU (jU (jU (jU (jU (jU (jU (jU (jU (jU (jU (jU (jU (jU (jU (jU (jU (jU (jU (jU (jU (jU (jU (jU (by as_aux_lemma=>kernel_rfl) QI) QJ) (by as_aux_lemma=>kernel_rfl)) (by as_aux_lemma=>kernel_rfl)) (by as_aux_lemma=>kernel_rfl)) (by as_aux_lemma=>kernel_rfl)) (by as_aux_lemma=>kernel_rfl)) (by as_aux_lemma=>kernel_rfl)) Ov) Ow) Ox) Oy) (by as_aux_lemma=>kernel_rfl)) (by as_aux_lemma=>kernel_rfl)) (by as_aux_lemma=>kernel_rfl)) (by as_aux_lemma=>kernel_rfl)) (by as_aux_lemma=>kernel_rfl)) (by as_aux_lemma=>kernel_rfl)) (by as_aux_lemma=>kernel_rfl)) (by as_aux_lemma=>kernel_rfl)) (by as_aux_lemma=>kernel_rfl)) (by as_aux_lemma=>kernel_rfl)) (by as_aux_lemma=>kernel_rfl)) (by as_aux_lemma=>kernel_rfl)) (by as_aux_lemma=>kernel_rfl)) (by as_aux_lemma=>kernel_rfl)) (by as_aux_lemma=>kernel_rfl)) (by as_aux_lemma=>kernel_rfl)) (by as_aux_lemma=>kernel_rfl)) (by as_aux_lemma=>kernel_rfl)) (by as_aux_lemma=>kernel_rfl)
def vA:Prop:=∀(os:Os) (_:os.Started) (H:Type) (enc:TypeId×Value->H),
  ReturnsInHanded {} Tryz.checked os 3 .any (Rows.faultsSpec.pre6 enc Tryz.prog Tryz.f3 Rows.faultsRow.domain false) (Rows.faultsSpec.post enc Tryz.prog Tryz.f3 false true false false)
theorem Eg(X:vA):Rows.FaultsSaid :=
 OpenClaim.holds_of_wide 3 Tryz.f3 rfl rfl rfl rfl rfl rfl rfl ⟨rfl,rfl,rfl,rfl,rfl⟩ rfl rfl rfl rfl rfl (by as_aux_lemma=>kernel_rfl) Tryz.func3 BN
  (of_decide_eq_true (by as_aux_lemma=>kernel_rfl)) (by unfold Func.isWrapper;first | (rw[if_pos (by decide +kernel)];kernel_rfl) | (rw[if_neg (by decide +kernel)];exact⟨rfl,rfl⟩))
  (fun os started H enc _=>X os started H enc)
end
end Go.Proofs.YtpddjjabfbfifaaGreat
