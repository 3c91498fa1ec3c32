import Derived.Test.YtpdholcaobgofaaGreatChecked
import Derived.Test.YtpdholcaobgofaaGreatRows
import Derived.ProofKit
import Derived.OpenShut
import Derived.ShutString
import Derived.ChangeOld
import Derived.Below
import Derived.SizedLaws
namespace Go.Proofs.YtpdholcaobgofaaGreat
open Go.RowKit
set_option maxHeartbeats 0
section
open Go.ChangeShapes Go.WideShapes Go.ChangeAt
theorem zcu:(Rows.parsesRow.inPlace==Tryz.prog.inPlace 3)=true:=by kernel_rfl
theorem zcv:(Rows.parsesRow.unfollowed==Tryz.prog.unfollowed 3)=true:=by kernel_rfl
theorem zcw:(Rows.parsesRow.recurses==Tryz.prog.recurses 3)=true:=by kernel_rfl
theorem zcx:(Rows.parsesRow.named==Tryz.prog.varsNamed 3)=true:=by kernel_rfl
theorem zcy:laidOutB Tryz.prog=true:=by kernel_rfl
theorem zcz:mapsRowed Tryz.prog=true:=by kernel_rfl
theorem gN{a b:Bool}(h:a=true)(k:b=true):(a&&b)=true:=by rw[h,k];rfl
set_option maxRecDepth 100000 in
theorem Ic:joinedFacts Tryz.prog 3 Tryz.f3 Rows.parsesSpec Rows.parsesRow=true:=by
 unfold joinedFacts;exact gN (gN (gN (gN (gN (gN (gN (gN (gN (gN (gN (gN (gN (gN (gN (gN (gN (gN (gN (gN (gN (gN (gN (gN (gN (gN (gN (gN (gN (gN (gN (by as_aux_lemma=>kernel_rfl) zcy) zcz) (by as_aux_lemma=>kernel_rfl)) (by as_aux_lemma=>kernel_rfl)) (by as_aux_lemma=>kernel_rfl)) (by as_aux_lemma=>kernel_rfl)) (by as_aux_lemma=>kernel_rfl)) (by as_aux_lemma=>kernel_rfl)) zcu) zcv) zcw) zcx) (by as_aux_lemma=>kernel_rfl)) (by as_aux_lemma=>kernel_rfl)) (by as_aux_lemma=>kernel_rfl)) (by as_aux_lemma=>kernel_rfl)) (by as_aux_lemma=>kernel_rfl)) (by as_aux_lemma=>kernel_rfl)) (by as_aux_lemma=>kernel_rfl)) (by as_aux_lemma=>kernel_rfl)) (by as_aux_lemma=>kernel_rfl)) (by as_aux_lemma=>kernel_rfl)) (by as_aux_lemma=>kernel_rfl)) (by as_aux_lemma=>kernel_rfl)) (by as_aux_lemma=>kernel_rfl)) (by as_aux_lemma=>kernel_rfl)) (by as_aux_lemma=>kernel_rfl)) (by as_aux_lemma=>kernel_rfl)) (by as_aux_lemma=>kernel_rfl)) (by as_aux_lemma=>kernel_rfl)) (by as_aux_lemma=>kernel_rfl)
def zH:Prop:=∀(os:Os) (_:os.Started) (H:Type) (enc:TypeId×Value->H),
  ReturnsInHanded {} Tryz.checked os 3 .any (Rows.parsesSpec.pre6 enc Tryz.prog Tryz.f3 Rows.parsesRow.domain false) (Rows.parsesSpec.post enc Tryz.prog Tryz.f3 false true false false)
theorem Ky(X:zH):Rows.ParsesSaid :=
 OpenClaim.holds_of_wide 3 Tryz.f3 rfl rfl rfl rfl rfl rfl rfl ⟨rfl,rfl,rfl,rfl,rfl⟩ rfl rfl rfl rfl rfl (by as_aux_lemma=>kernel_rfl) Tryz.func3 Ic
  (of_decide_eq_true (by as_aux_lemma=>kernel_rfl)) (by unfold Func.isWrapper;first | (rw[if_pos (by decide +kernel)];kernel_rfl) | (rw[if_neg (by decide +kernel)];exact⟨rfl,rfl⟩))
  (fun os started H enc _=>X os started H enc)
end
end Go.Proofs.YtpdholcaobgofaaGreat
