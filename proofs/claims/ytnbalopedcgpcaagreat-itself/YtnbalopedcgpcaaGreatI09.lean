import Derived.Test.YtnbalopedcgpcaaGreatRows
import Derived.ProofKit
import Derived.OpenShut
import Derived.ShutString
import Derived.ChangeOld
import Derived.Below
import Derived.SizedLaws
import Derived.SliceStrings
import Derived.Test.YtnbalopedcgpcaaGreatI08
namespace Go.Proofs.YtnbalopedcgpcaaGreat
open Go.RowKit
set_option maxHeartbeats 0
section
open Go.ChangeShapes Go.WideShapes Go.ChangeAt Go.RowKit
open Go.ChangeMaps (open_string shut_string)
theorem Zad:ownKnob Tryz.prog.godebug=none:=by kernel_rfl
theorem Ua:laidOutB Tryz.prog=true:=by kernel_rfl
theorem zaU:Tryz.prog.bytesOf 9=16:=by kernel_rfl
theorem DZ{H:Type}(P:Program)(e:TypeId)(f:Vq->DataW H)(c:∀s,f s=.lit (.string s.data.toList))(l:Vs)(s:Vq)(b:s∈l):s.data.toList.length∈DataW.weightsAll P e (l.map f):=by
 induction l with
 | nil=>simp at b
 | cons a r d =>
  rw[List.map_cons,DataW.weightsAll,List.mem_append];rcases List.mem_cons.1 b with rfl | h
  ·left;rw[c,DataW.weights];simp
  ·right;exact d h
theorem Mo{H:Type}{v:TypeId×Value->H}{W:World}{B:Vt}{a o:Nat}{C:DataW H}{L:List MemPlace}{A:List TypeId}{z:List (DataW H)}(u:DataW.Trod v Tryz.prog W 0 (fun _=>true) true 22 (.slice B a o) C L)(q:(DataW.weightsEach Tryz.prog A z).all (·<=reachBytes)=true)(F:A[0]?=some 22)(E:z[0]?=some C) :
  ∃l:Vs,l.length=a/\a<=140737488351232/\(∀x,x∈l->x.size<=140737488351232)/\(l.length=0∨∃b d,B=some ⟨b,d,none⟩/\jZ W b d l):=by
 have U:∀x∈L,x.block<W.heap.size:=by obtain⟨m,I⟩:=u;exact DataW.trod_lt m _ _ _ I
 obtain⟨D,N⟩:=u;rcases open_strings Tryz.underlying22 Tryz.underlying9 (by kernel_rfl) N with ⟨f,_⟩ | ⟨x,l,c,t,f,_,V,I,T,K,e,R⟩
 ·simp[Value.cells]at f;obtain⟨rfl,rfl,rfl⟩:=f;exact⟨[],rfl,by omega,by simp,Or.inl rfl⟩
 ·simp[Value.cells]at f;obtain⟨rfl,rfl,rfl⟩:=f;simp at T;have k:(t.take a).length=a:=by simp;omega
  simp only[Prod.mk.injEq]at K;obtain⟨rfl,-⟩:=K;have r:=sized_slice q (j:=0) F E Tryz.underlying22;rw[zaU]at r;simp only[ChangeShapes.strs,List.length_map,List.length_take,List.length_drop,reachBytes]at r;refine⟨t.take a,k,by omega,?_,?_⟩
  ·intro y S;have w:y.data.toList.length∈DataW.weights Tryz.prog 22 (.slice (ChangeShapes.strs (t.take a)) (ChangeShapes.strs (t.drop a)):DataW H):=by
    simp only[DataW.weights,Tryz.underlying22];exact List.mem_cons_of_mem _ (List.mem_append_left _ (DZ Tryz.prog 9 _ (fun _=>rfl) _ y S))
   have:=List.all_eq_true.1 q _ (DataW.weights_mem_each (j:=0) F E _ w);have g:y.data.toList.length<=reachBytes:=(by simpa using this);simp only[reachBytes]at g;exact g
  ·by_cases u:a=0
   ·left;rw[k];exact u
   ·right
    obtain⟨b,d,s⟩:=x;have p:=e 0 (by omega);have n:s=none:=(by simpa [Addr.add] using World.cell?_spot p);subst n;refine⟨b,d,rfl,?_,?_⟩
    ·have:W.cell? ⟨b,d,none⟩=some (.string (t.getD 0 ByteArray.empty)):=(by simpa [Addr.add] using p);unfold World.cell? at this;split at this
     ·next O=>exact am O
     ·cases this
    ·intro i G;have P:i<a:=(by rw[k]at G;exact G);have:=e i (by omega);have M:(⟨b,d,none⟩:Addr).add i=⟨b,d+i,none⟩:=by
      simp only[Addr.add];split
      ·next h=>subst h;rfl
      ·rfl
     rw[M]at this;rw[this,List.getElem_take,List.getD_eq_getElem?_getD,List.getElem?_eq_getElem (by omega)];rfl
end
end Go.Proofs.YtnbalopedcgpcaaGreat
