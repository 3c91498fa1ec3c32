import Derived.Test.YtnbalopedcgpcaaGreatRows
import Derived.ProofKit
import Derived.OpenShut
import Derived.ShutString
import Derived.ChangeOld
import Derived.Below
import Derived.SizedLaws
import Derived.SliceStrings
import Derived.Test.YtnbalopedcgpcaaGreatG20
namespace Go.Proofs.YtnbalopedcgpcaaGreat
open Go.RowKit Tryz
open Value renaming string->Xy,slice->Xz,bool->XC
open Obj renaming cells->XE
open Ending renaming returned->XH
open World renaming cell?->XI
open Option renaming none->XJ,some->XK
open Bool renaming true->XL
open Go renaming Calls->XO,World->XP,Value->XQ
set_option maxHeartbeats 0
variable(w:Option Addr)(b:Nat)
theorem qU:bu ⟨#[]⟩=[]:=by
 have h:(aJ ⟨#[]⟩).2.Us.length=0:=by decide +kernel
 unfold bu;rw[Qb h];rfl
theorem CL(a:XP):XO prog 6 #[Xz w 0 b] a fun e c=>e=XH (XC XL)/\c=a:=by
 go_enter func6,ntmps6;go_wp2;refine Q7 1 ?_;rw[Rx];go_wp2;go_ret;exact⟨rfl,rfl⟩
theorem JT(l:List ByteArray)(c:XP)(m:l.length<=140737488351232)(g:∀x,x∈l->x.size<=140737488351232)(k:l.length=0∨∃d a,w=XK ⟨d,a,XJ⟩/\iC c d a l) :
  XO prog 6 #[Xz w l.length b] c fun e n=>(∃r,e=XH (XC r)/\(r=XL->l.length<=1073741824/\∀i,i<l.length->(l.getD i ⟨#[]⟩).size<=1073741824))/\n=c:=by
 rcases k with j | ⟨d,a,rfl,f⟩
 ·rw[j];refine(CL w b c).mono ?_;rintro e p ⟨rfl,rfl⟩;exact⟨⟨XL,rfl,fun _=>⟨by omega,fun i o=>by omega⟩⟩,rfl⟩
 ·exact Gs d a b l c m g f
section
open Go.ChangeShapes Go.WideShapes Go.ChangeAt Go.RowKit
open Go.ChangeMaps (open_string shut_string)
theorem own:ownKnob prog.godebug=XJ:=by kernel_rfl
theorem Lt:laidOutB prog=XL:=by kernel_rfl
theorem Ne:prog.bytesOf 9=16:=by kernel_rfl
theorem xJ{H:Type}(P:Program)(e:TypeId)(f:ByteArray->DataW H)(c:∀s,f s=.lit (Xy s.data.toList))(l:List ByteArray)(s:ByteArray)(b:s∈l):s.data.toList.length∈DataW.weightsAll P e (l.map f):=by
 induction l with
 | nil=>simp at b
 | cons a r d =>
  rw[Rf,DataW.weightsAll,Qd];rcases QP.1 b with rfl | h
  ·left;rw[c,DataW.weights];simp
  ·right;exact d h
theorem EE{H:Type}{v:TypeId×XQ->H}{W:XP}{B:Option Addr}{a o:Nat}{C:DataW H}{K:List MemPlace}{A:List TypeId}{z:List (DataW H)}(u:DataW.Trod v prog W 0 (fun _=>XL) XL 22 (Xz B a o) C K)(q:(DataW.weightsEach prog A z).all (·<=reachBytes)=XL)(F:A[0]?=XK 22)(E:z[0]?=XK C) :
  ∃l:List ByteArray,l.length=a/\a<=140737488351232/\(∀x,x∈l->x.size<=140737488351232)/\(l.length=0∨∃b d,B=XK ⟨b,d,XJ⟩/\iC W b d l):=by
 have S:∀x∈K,x.block<W.heap.size:=by obtain⟨m,I⟩:=u;exact DataW.trod_lt m _ _ _ I
 obtain⟨D,M⟩:=u;rcases open_strings underlying22 underlying9 (by kernel_rfl) M with ⟨f,_⟩ | ⟨x,l,c,t,f,_,T,I,R,J,e,P⟩
 ·simp[XE]at f;obtain⟨rfl,rfl,rfl⟩:=f;exact⟨[],rfl,by omega,by simp,PI rfl⟩
 ·simp[XE]at f;obtain⟨rfl,rfl,rfl⟩:=f;simp at R;have k:(t.take a).length=a:=by simp;omega
  simp only[Prod.mk.injEq]at J;obtain⟨rfl,-⟩:=J;have r:=sized_slice q (j:=0) F E underlying22;rw[Ne]at r;simp only[ChangeShapes.strs,List.length_map,List.length_take,List.length_drop,reachBytes]at r;refine⟨t.take a,k,by omega,?_,?_⟩
  ·intro y Q;have w:y.data.toList.length∈DataW.weights prog 22 (Xz (ChangeShapes.strs (t.take a)) (ChangeShapes.strs (t.drop a)):DataW H):=by
    simp only[DataW.weights,underlying22];exact Qj _ (Rk _ (xJ prog 9 _ (fun _=>rfl) _ y Q))
   have:=QF.1 q _ (DataW.weights_mem_each (j:=0) F E _ w);have g:y.data.toList.length<=reachBytes:=(by simpa using this);simp only[reachBytes]at g;exact g
  ·by_cases u:a=0
   ·left;rw[k];exact u
   ·right
    obtain⟨b,d,s⟩:=x;have p:=e 0 (by omega);have n:s=XJ:=(by simpa [Addr.add] using World.cell?_spot p);subst n;refine⟨b,d,rfl,?_,?_⟩
    ·have:XI W ⟨b,d,XJ⟩=XK (Xy (t.getD 0 ByteArray.empty)):=(by simpa [Addr.add] using p);unfold World.cell? at this;split at this
     ·next N=>exact ae N
     ·cases this
    ·intro i G;have O:i<a:=(by rw[k]at G;exact G);have:=e i (by omega);have L:(⟨b,d,XJ⟩:Addr).add i=⟨b,d+i,XJ⟩:=by
      simp only[Addr.add];split
      ·next h=>subst h;rfl
      ·rfl
     rw[L]at this;rw[this,List.getElem_take,Py,Px (by omega)];rfl
end
end Go.Proofs.YtnbalopedcgpcaaGreat
