import Derived.Test.YtpdholcaobgofaaGreatChecked
import Derived.Test.YtpdholcaobgofaaGreatRows
import Derived.ProofKit
import Derived.OpenShut
import Derived.ShutString
import Derived.ChangeOld
import Derived.Below
import Derived.SizedLaws
namespace Go.Proofs.YtpdholcaobgofaaGreat
open Go.RowKit
set_option maxHeartbeats 0
section
open Go.ChangeShapes Go.WideShapes Go.ChangeAt
theorem zew:(Rows.parsesRow.inPlace==Tryz.prog.inPlace 3)=true:=by kernel_rfl
theorem zex:(Rows.parsesRow.unfollowed==Tryz.prog.unfollowed 3)=true:=by kernel_rfl
theorem zey:(Rows.parsesRow.recurses==Tryz.prog.recurses 3)=true:=by kernel_rfl
theorem zez:(Rows.parsesRow.named==Tryz.prog.varsNamed 3)=true:=by kernel_rfl
theorem zeA:laidOutB Tryz.prog=true:=by kernel_rfl
theorem zeB:mapsRowed Tryz.prog=true:=by kernel_rfl
theorem ii{a b:Bool}(h:a=true)(k:b=true):(a&&b)=true:=by rw[h,k];rfl
set_option maxRecDepth 100000 in
theorem IA:joinedFacts Tryz.prog 3 Tryz.f3 Rows.parsesSpec Rows.parsesRow=true:=by
 unfold joinedFacts;exact ii (ii (ii (ii (ii (ii (ii (ii (ii (ii (ii (ii (ii (ii (ii (ii (ii (ii (ii (ii (ii (ii (ii (ii (ii (ii (ii (ii (ii (ii (ii (by as_aux_lemma=>kernel_rfl) zeA) zeB) (by as_aux_lemma=>kernel_rfl)) (by as_aux_lemma=>kernel_rfl)) (by as_aux_lemma=>kernel_rfl)) (by as_aux_lemma=>kernel_rfl)) (by as_aux_lemma=>kernel_rfl)) (by as_aux_lemma=>kernel_rfl)) zew) zex) zey) zez) (by as_aux_lemma=>kernel_rfl)) (by as_aux_lemma=>kernel_rfl)) (by as_aux_lemma=>kernel_rfl)) (by as_aux_lemma=>kernel_rfl)) (by as_aux_lemma=>kernel_rfl)) (by as_aux_lemma=>kernel_rfl)) (by as_aux_lemma=>kernel_rfl)) (by as_aux_lemma=>kernel_rfl)) (by as_aux_lemma=>kernel_rfl)) (by as_aux_lemma=>kernel_rfl)) (by as_aux_lemma=>kernel_rfl)) (by as_aux_lemma=>kernel_rfl)) (by as_aux_lemma=>kernel_rfl)) (by as_aux_lemma=>kernel_rfl)) (by as_aux_lemma=>kernel_rfl)) (by as_aux_lemma=>kernel_rfl)) (by as_aux_lemma=>kernel_rfl)) (by as_aux_lemma=>kernel_rfl)) (by as_aux_lemma=>kernel_rfl)
def zW:Prop:=∀(os:Os) (_:os.Started) (H:Type) (enc:TypeId×Value->H),
  ReturnsInHanded {} Tryz.checked os 3 .any (Rows.parsesSpec.pre6 enc Tryz.prog Tryz.f3 Rows.parsesRow.domain false) (Rows.parsesSpec.post enc Tryz.prog Tryz.f3 false true false false)
theorem KY(zzX:zW):Rows.ParsesSaid :=
 OpenClaim.holds_of_wide 3 Tryz.f3 rfl rfl rfl rfl rfl rfl rfl ⟨rfl,rfl,rfl,rfl,rfl⟩ rfl rfl rfl rfl rfl (by as_aux_lemma=>kernel_rfl) Tryz.func3 IA
  (of_decide_eq_true (by as_aux_lemma=>kernel_rfl)) (by unfold Func.isWrapper;first | (rw[if_pos (by decide +kernel)];kernel_rfl) | (rw[if_neg (by decide +kernel)];exact⟨rfl,rfl⟩))
  (fun os started H enc _=>zzX os started H enc)
end
end Go.Proofs.YtpdholcaobgofaaGreat
