import Derived.Test.YtnbhnocdhbcbcaaGreatChecked
import Derived.Test.YtnbhnocdhbcbcaaGreatRows
import Derived.ProofKit
import Derived.OpenShut
import Derived.ShutString
import Derived.ChangeOld
import Derived.Below
import Derived.SizedLaws
namespace Go.Proofs.YtnbhnocdhbcbcaaGreat
open Go.RowKit
set_option maxHeartbeats 0
section
open Go.ChangeShapes Go.WideShapes Go.ChangeAt
theorem Ta:(Rows.neededRow.inPlace==Tryz.prog.inPlace 4)=true:=by kernel_rfl
theorem Tb:(Rows.neededRow.unfollowed==Tryz.prog.unfollowed 4)=true:=by kernel_rfl
theorem Tc:(Rows.neededRow.recurses==Tryz.prog.recurses 4)=true:=by kernel_rfl
theorem Td:(Rows.neededRow.named==Tryz.prog.varsNamed 4)=true:=by kernel_rfl
theorem Te:laidOutB Tryz.prog=true:=by kernel_rfl
theorem Tf:mapsRowed Tryz.prog=true:=by kernel_rfl
theorem gg{a b:Bool}(h:a=true)(k:b=true):(a&&b)=true:=by rw[h,k];rfl
set_option maxRecDepth 100000 in
theorem DB:joinedFacts Tryz.prog 4 Tryz.f4 Rows.neededSpec Rows.neededRow=true:=by
 unfold joinedFacts;exact gg (gg (gg (gg (gg (gg (gg (gg (gg (gg (gg (gg (gg (gg (gg (gg (gg (gg (gg (gg (gg (gg (gg (gg (gg (gg (gg (gg (gg (gg (gg (by as_aux_lemma=>kernel_rfl) Te) Tf) (by as_aux_lemma=>kernel_rfl)) (by as_aux_lemma=>kernel_rfl)) (by as_aux_lemma=>kernel_rfl)) (by as_aux_lemma=>kernel_rfl)) (by as_aux_lemma=>kernel_rfl)) (by as_aux_lemma=>kernel_rfl)) Ta) Tb) Tc) Td) (by as_aux_lemma=>kernel_rfl)) (by as_aux_lemma=>kernel_rfl)) (by as_aux_lemma=>kernel_rfl)) (by as_aux_lemma=>kernel_rfl)) (by as_aux_lemma=>kernel_rfl)) (by as_aux_lemma=>kernel_rfl)) (by as_aux_lemma=>kernel_rfl)) (by as_aux_lemma=>kernel_rfl)) (by as_aux_lemma=>kernel_rfl)) (by as_aux_lemma=>kernel_rfl)) (by as_aux_lemma=>kernel_rfl)) (by as_aux_lemma=>kernel_rfl)) (by as_aux_lemma=>kernel_rfl)) (by as_aux_lemma=>kernel_rfl)) (by as_aux_lemma=>kernel_rfl)) (by as_aux_lemma=>kernel_rfl)) (by as_aux_lemma=>kernel_rfl)) (by as_aux_lemma=>kernel_rfl)) (by as_aux_lemma=>kernel_rfl)
def xc:Prop:=∀(os:Os) (_:os.Started) (H:Type) (enc:TypeId×Value->H),
  ReturnsInHanded {} Tryz.checked os 4 .any (Rows.neededSpec.pre6 enc Tryz.prog Tryz.f4 Rows.neededRow.domain false) (Rows.neededSpec.post enc Tryz.prog Tryz.f4 false true false false)
theorem FL(X:xc):Rows.NeededSaid :=
 OpenClaim.holds_of_wide 4 Tryz.f4 rfl rfl rfl rfl rfl rfl rfl ⟨rfl,rfl,rfl,rfl,rfl⟩ rfl rfl rfl rfl rfl (by as_aux_lemma=>kernel_rfl) Tryz.func4 DB
  (of_decide_eq_true (by as_aux_lemma=>kernel_rfl)) (by unfold Func.isWrapper;first | (rw[if_pos (by decide +kernel)];kernel_rfl) | (rw[if_neg (by decide +kernel)];exact⟨rfl,rfl⟩))
  (fun os started H enc _=>X os started H enc)
end
end Go.Proofs.YtnbhnocdhbcbcaaGreat
