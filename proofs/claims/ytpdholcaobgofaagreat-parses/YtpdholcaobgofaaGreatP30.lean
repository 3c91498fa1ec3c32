import Derived.Test.YtpdholcaobgofaaGreatRows
import Derived.Deep.Slices
import Derived.ProofKit
import Derived.OpenShut
import Derived.ShutString
import Derived.ChangeOld
import Derived.Below
import Derived.SizedLaws
import Derived.Test.YtpdholcaobgofaaGreatP28
namespace Go.Proofs.YtpdholcaobgofaaGreat
open Go.RowKit Go.Proofs.Tryz
set_option maxHeartbeats 0
variable{w:Nat}{l:World}(b H f:Nat)
section
open Go.ChangeShapes Go.WideShapes Go.ChangeAt Go.RowKit
theorem Za:ownKnob prog.godebug=none:=by kernel_rfl
theorem zaH:laidOutB prog=true:=by kernel_rfl
theorem zcg:prog.bytesOf 28=64:=by kernel_rfl
theorem Rx:prog.cellsOf 28=6:=by kernel_rfl
theorem EF:prog.cellsOf 3=1:=by kernel_rfl
theorem MC:prog.cellsOf 9=1:=by kernel_rfl
theorem uO:prog.underlying 28=some (.struct (prog.fieldsOf 28)):=by kernel_rfl
theorem zah:(prog.fieldsOf 28).toList.map (fun f=>(f.type,f.offset))=[(3,0),(3,1),(3,2),(3,3),(9,4),(9,5)]:=by kernel_rfl
theorem xR(h:[(3,0),(3,1),(3,2),(3,3),(9,4),(9,5)][b]?=some (H,f)):∃a,(prog.fieldsOf 28)[b]?=some a/\a.type=H/\a.offset=f:=by
 rw[<-zah,List.getElem?_map,Array.getElem?_toList]at h;cases e:(prog.fieldsOf 28)[b]? with
 | none=>rw[e]at h;cases h
 | some a=>rw[e]at h;simp at h;exact⟨a,rfl,h.1,h.2⟩
theorem zd5:(prog.fieldsOf 28).size=6:=by kernel_rfl
theorem L9{H:Type}(P:Program)(e:TypeId){L:List (DataW H)}{d:DataW H}(b:d∈L)(c:w∈DataW.weights P e d):w∈DataW.weightsAll P e L:=by
 induction L with
 | nil=>cases b
 | cons a r f =>
  rw[DataW.weightsAll,List.mem_append];rcases List.mem_cons.1 b with rfl | h
  ·exact Or.inl c
  ·exact Or.inr (f h)
theorem Mx:(⟨b,H,none⟩:Addr).add f=⟨b,H+f,none⟩:=by
 simp only[Addr.add];split
 ·next h=>subst h;rfl
 ·rfl
set_option maxRecDepth 100000
theorem zaY{H:Type}{i:TypeId×Value->H}{g:List Value}{x:DataW H×List MemPlace}(h:DataW.trod i prog l 0 (fun _=>true) true w 28 g=some x) :
  ∃o:ph,g=QT o/\(ui o.k/\ui o.a/\ui o.c/\ui o.d)/\o.s.data.toList.length∈DataW.weights prog 28 x.1/\o.t.data.toList.length∈DataW.weights prog 28 x.1:=by
 obtain⟨xs,m,-,rfl,e,f,b⟩:=DataW.trod_struct uO h;rw[Rx]at e;rw[zd5]at f
 match g,e,xs,f with
 | [v0,v1,v2,v3,v4,v5],_,[y0,y1,y2,y3,y4,y5],_ =>
  obtain⟨T,L,t0,q0⟩:=xR 0 _ _ rfl;obtain⟨V,M,t1,q1⟩:=xR 1 _ _ rfl;obtain⟨W,N,t2,q2⟩:=xR 2 _ _ rfl;obtain⟨f3,P,t3,q3⟩:=xR 3 _ _ rfl;obtain⟨f4,R,t4,q4⟩:=xR 4 _ _ rfl;obtain⟨f5,S,t5,q5⟩:=xR 5 _ _ rfl;have D:=b 0 T L;have E:=b 1 V M;have F:=b 2 W N;have G:=b 3 f3 P;have I:=b 4 f4 R;have K:=b 5 f5 S;rw[t0,q0,EF]at D;rw[t1,q1,EF]at E;rw[t2,q2,EF]at F;rw[t3,q3,EF]at G;rw[t4,q4,MC]at I;rw[t5,q5,MC]at K;obtain⟨n0,j,v,w0⟩:=DataW.trod_int underlying3 D;obtain⟨n1,n,y,w1⟩:=DataW.trod_int underlying3 E;obtain⟨n2,p,z,w2⟩:=DataW.trod_int underlying3 F;obtain⟨n3,q,A,w3⟩:=DataW.trod_int underlying3 G;obtain⟨s4,r,B,-⟩:=DataW.trod_string underlying9 I;obtain⟨s5,u,C,-⟩:=DataW.trod_string underlying9 K;simp at j n p q r u v y z A B C;refine⟨⟨n0,n1,n2,n3,s4,s5⟩,?_,⟨bounds_i64 w0,bounds_i64 w1,bounds_i64 w2,bounds_i64 w3⟩,?_,?_⟩
  ·rw[j,n,p,q,r,u];rfl
  all_goals
   rw[v,y,z,A,B,C];simp[DataW.weights,DataW.weightsEach]
theorem zcV{H:Type}{I:TypeId×Value->H}{T:Vz}{v:Nat}{V:DataW H}{p0:List MemPlace}{S:List TypeId}{R:List (DataW H)}(h0:DataW.Trod I prog l 0 (fun _=>true) true 22 (.slice T w v) V p0)(A:(DataW.weightsEach prog S R).all (·<=reachBytes)=true)(hT:S[0]?=some 22)(hD:R[0]?=some V) :
  ∃N:List ph,N.length=w/\w*64<=140737488351232/\(∀o∈N,Cy o)/\oC l T N:=by
 obtain⟨W,hf⟩:=h0;rcases Go.Deep.open_slice underlying22 hf with ⟨d,_⟩ | ⟨a,ai,ac,m,n,D,Pl,d,-,af,ad,hm,hx,x⟩
 ·simp[Value.cells]at d;obtain⟨rfl,rfl,rfl⟩:=d;exact⟨[],rfl,by omega,(fun o z=>by cases z),fun i o c=>by cases c⟩
 ·simp[Value.cells]at d;obtain⟨rfl,rfl,rfl⟩:=d;simp only[if_true]at hm;have ag:w<=m:=by omega
  simp only[Prod.mk.injEq]at hx;obtain⟨rfl,-⟩:=hx;have B:=sized_slice A (j:=0) hT hD underlying22;rw[zcg]at B;simp only[List.length_map,List.length_range,reachBytes]at B;have g:∀i,i<w->∃o:ph,Cy o/\∀(j:Nat) u,(QT o)[j]?=some u->l.cell? ((a.add (i*6)).add j)=some u:=fun i c=>by
   obtain⟨cs,E,h2⟩:=x i (by omega);rw[Rx]at E;obtain⟨-,hl,F⟩:=World.cells?_some E;obtain⟨o,z,⟨r0,r1,r2,r3⟩,g4,g5⟩:=zaY h2;have t:∀q,q∈DataW.weights prog 28 (D i)->q<=140737488351232:=fun q hq=>by
    have M:q∈DataW.weights prog 22 (.slice ((List.range w).map D) ((List.range (m-w)).map fun j=>D (w+j)):DataW H):=by
     simp only[DataW.weights,underlying22];exact List.mem_cons_of_mem _ (List.mem_append_left _ (L9 prog _ (List.mem_map.2 ⟨i,List.mem_range.2 c,rfl⟩) hq))
    have:=List.all_eq_true.1 A _ (DataW.weights_mem_each (j:=0) hT hD _ M);have s:q<=reachBytes:=(by simpa using this);simpa only [reachBytes] using s
   refine⟨o,⟨r0,r1,r2,r3,t _ g4,t _ g5⟩,fun j u G=>?_⟩;have L:j<6:=(List.getElem?_eq_some_iff.1 G).1;rw[F j L,z];exact G
  have k:Nonempty ph:=⟨⟨0,0,0,0,⟨#[]⟩,⟨#[]⟩⟩⟩
  have K:∃f:Nat->ph,∀i,i<w->Cy (f i)/\∀(j:Nat) u,(QT (f i))[j]?=some u->l.cell? ((a.add (i*6)).add j)=some u:=by
   classical
   refine⟨fun i=>if c:i<w then Classical.choose (g i c) else Classical.choice k,fun i c=>?_⟩;simp only[dif_pos c];exact Classical.choose_spec (g i c)
  obtain⟨f,p⟩:=K;refine⟨(List.range w).map f,by simp,by omega,fun o z=>?_,fun i o c=>?_⟩
  ·obtain⟨i,E,rfl⟩:=List.mem_map.1 z;exact(p i (List.mem_range.1 E)).1
  ·rw[List.getElem?_map]at c;have y:i<w:=by
    rcases Nat.lt_or_ge i w with h | h
    ·exact h
    ·rw[List.getElem?_eq_none (by simp;exact h)]at c;cases c
   rw[List.getElem?_range y]at c;cases c
   have F:=(p i y).2;obtain⟨b,P,C⟩:=a;have e:=F 0 _ rfl;have r:C=none:=(by simpa [Addr.add] using World.cell?_spot ((p 0 (by omega)).2 0 _ rfl));subst r;refine⟨b,P,rfl,?_,fun j u G=>?_⟩
   ·rw[Mx,Mx]at e;unfold World.cell? at e;split at e
    ·next hh=>exact ae hh
    ·cases e
   ·have:=F j u G;rw[Mx,Mx]at this;exact this
end
end Go.Proofs.YtpdholcaobgofaaGreat
