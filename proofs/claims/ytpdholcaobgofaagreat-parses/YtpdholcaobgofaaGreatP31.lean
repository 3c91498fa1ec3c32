import Derived.Test.YtpdholcaobgofaaGreatP24
import Derived.Test.YtpdholcaobgofaaGreatP27
namespace Go.Proofs.YtpdholcaobgofaaGreat
open Go.RowKit Tryz
open Value IntKind Ending
set_option linter.all false
set_option maxHeartbeats 0
def zj(fs:Fs)(st:Option Nat)(lab code:Vx)(res:Int×Vy):Prop:=match st with
 | none=>res=(7,[])
 | some k=>qH (cO fs k).2.2.YY lab code res
theorem Pu(x:Nat)(c:Fs)(o m:Nat)(d:Option Nat)(b a:Vx)(w:World)(n:fE w x c o m d)(f:∀j,j<c.length->(ak c j).size<=1024)(l:∀k,d=some k->uW (cO c k).2.2) :
  aU 45 #[bh x,Y b,Y a] w λe p=>Q1 (zj c d b a) w e p:=by have i:=n.s;cases d with|none=>exact Jv x c b a w i|some k=>obtain⟨-,H,g,r,-⟩:=i;exact L8 x c _ H g _ rfl (l k rfl) b a w r (IQ c f k).ok
end Go.Proofs.YtpdholcaobgofaaGreat
