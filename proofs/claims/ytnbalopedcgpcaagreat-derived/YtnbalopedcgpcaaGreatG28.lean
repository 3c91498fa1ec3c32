import Derived.Test.YtnbalopedcgpcaaGreatG27
namespace Go.Proofs.YtnbalopedcgpcaaGreat
open Go.RowKit Tryz
open Bool renaming true->XL
set_option maxHeartbeats 0
variable{w:Nat}
theorem Ie:(List.range 4200).all (fun n=>(Ib (dy n)==n)&&jG (dy n).toList)=XL:=by decide +kernel
theorem rE(h:w<4200):Ib (dy w)=w/\jG (dy w).toList=XL:=by
 have:=QR.1 Ie w (Qe.2 h);rw[Qw]at this;exact⟨Rr this.1,this.2⟩
theorem yH{m:Nat}(b:w<4200)(a:m<4200)(h:(dy w).toList=(dy m).toList):w=m:=by
 rw[<-(rE b).1,<-(rE a).1];unfold Ib;rw[h]
end Go.Proofs.YtnbalopedcgpcaaGreat
