import Derived.Test.YtnbalopedcgpcaaGreatRows
import Derived.ProofKit
import Derived.OpenShut
import Derived.ShutString
import Derived.ChangeOld
import Derived.Below
import Derived.SizedLaws
import Derived.SliceStrings
import Derived.Test.YtnbalopedcgpcaaGreatG09
namespace Go.Proofs.YtnbalopedcgpcaaGreat
open Go.RowKit
open Option renaming none->XJ,some->XK
open Bool renaming true->XL
open Go renaming World->XP,Value->XQ
set_option maxHeartbeats 0
section
open Go.ChangeShapes Go.WideShapes Go.ChangeAt Go.RowKit
open Go.ChangeMaps (open_string shut_string)
theorem own:ownKnob Tryz.prog.godebug=XJ:=by kernel_rfl
theorem Lw:laidOutB Tryz.prog=XL:=by kernel_rfl
theorem Ni:Tryz.prog.bytesOf 9=16:=by kernel_rfl
theorem xJ{H:Type}(P:Program)(e:TypeId)(f:ByteArray->DataW H)(c:∀s,f s=.lit (.string s.data.toList))(l:List ByteArray)(s:ByteArray)(b:s∈l):s.data.toList.length∈DataW.weightsAll P e (l.map f):=by
 induction l with
 | nil=>simp at b
 | cons a r d =>
  rw[List.map_cons,DataW.weightsAll,List.mem_append];rcases List.mem_cons.1 b with rfl | h
  ·left;rw[c,DataW.weights];simp
  ·right;exact d h
theorem EE{H:Type}{v:TypeId×XQ->H}{W:XP}{B:Option Addr}{a o:Nat}{C:DataW H}{K:List MemPlace}{A:List TypeId}{z:List (DataW H)}(u:DataW.Trod v Tryz.prog W 0 (fun _=>XL) XL 22 (.slice B a o) C K)(q:(DataW.weightsEach Tryz.prog A z).all (·<=reachBytes)=XL)(F:A[0]?=XK 22)(E:z[0]?=XK C) :
  ∃l:List ByteArray,l.length=a/\a<=140737488351232/\(∀x,x∈l->x.size<=140737488351232)/\(l.length=0∨∃b d,B=XK ⟨b,d,XJ⟩/\iD W b d l):=by
 have S:∀x∈K,x.block<W.heap.size:=by obtain⟨m,I⟩:=u;exact DataW.trod_lt m _ _ _ I
 obtain⟨D,M⟩:=u;rcases open_strings Tryz.underlying22 Tryz.underlying9 (by kernel_rfl) M with ⟨f,_⟩ | ⟨x,l,c,t,f,_,T,I,R,J,e,P⟩
 ·simp[Value.cells]at f;obtain⟨rfl,rfl,rfl⟩:=f;exact⟨[],rfl,by omega,by simp,Or.inl rfl⟩
 ·simp[Value.cells]at f;obtain⟨rfl,rfl,rfl⟩:=f;simp at R;have k:(t.take a).length=a:=by simp;omega
  simp only[Prod.mk.injEq]at J;obtain⟨rfl,-⟩:=J;have r:=sized_slice q (j:=0) F E Tryz.underlying22;rw[Ni]at r;simp only[ChangeShapes.strs,List.length_map,List.length_take,List.length_drop,reachBytes]at r;refine⟨t.take a,k,by omega,?_,?_⟩
  ·intro y Q;have w:y.data.toList.length∈DataW.weights Tryz.prog 22 (.slice (ChangeShapes.strs (t.take a)) (ChangeShapes.strs (t.drop a)):DataW H):=by
    simp only[DataW.weights,Tryz.underlying22];exact List.mem_cons_of_mem _ (List.mem_append_left _ (xJ Tryz.prog 9 _ (fun _=>rfl) _ y Q))
   have:=List.all_eq_true.1 q _ (DataW.weights_mem_each (j:=0) F E _ w);have g:y.data.toList.length<=reachBytes:=(by simpa using this);simp only[reachBytes]at g;exact g
  ·by_cases u:a=0
   ·left;rw[k];exact u
   ·right
    obtain⟨b,d,s⟩:=x;have p:=e 0 (by omega);have n:s=XJ:=(by simpa [Addr.add] using World.cell?_spot p);subst n;refine⟨b,d,rfl,?_,?_⟩
    ·have:W.cell? ⟨b,d,XJ⟩=XK (.string (t.getD 0 ByteArray.empty)):=(by simpa [Addr.add] using p);unfold World.cell? at this;split at this
     ·next N=>exact ae N
     ·cases this
    ·intro i G;have O:i<a:=(by rw[k]at G;exact G);have:=e i (by omega);have L:(⟨b,d,XJ⟩:Addr).add i=⟨b,d+i,XJ⟩:=by
      simp only[Addr.add];split
      ·next h=>subst h;rfl
      ·rfl
     rw[L]at this;rw[this,List.getElem_take,List.getD_eq_getElem?_getD,List.getElem?_eq_getElem (by omega)];rfl
end
end Go.Proofs.YtnbalopedcgpcaaGreat
