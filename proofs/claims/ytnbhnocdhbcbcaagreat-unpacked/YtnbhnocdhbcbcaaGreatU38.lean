import Derived.OwnWalk
import Derived.Test.YtnbhnocdhbcbcaaGreatU37
namespace Go.Proofs.YtnbhnocdhbcbcaaGreat
open Go.RowKit Tryz
open Value IntKind Ending
set_option maxHeartbeats 0
theorem BN(b o n:Nat)(l:List St)(H:Nat->Hd)(g:Nat)(L:List Rw)(w:World)(h:kp w b o l H g L) :
  Calls prog 100 #[pointer (some ⟨b,o,none⟩),int i64 n] w fun e i=>e=returned (bool (lg L n))/\i=w:=by
 have d:Xr _:=wA b o n l H g L w h;have c:Xr (lg L n=((mn L n==4)||(mn L n==5))):=rfl;clear h;generalize mn L n=v at *;cases f:(v==4)
 ·rw[f,Vn]at c;go_enter func100,ntmps100;go_wp2_with (go_at_call 96;refine Ug d.o ?_;rintro e j ⟨rfl,a⟩;rw[a]);go_ret;exact⟨aE c.o.symm,rfl⟩
 ·rw[f,Wh]at c;go_enter func100,ntmps100;go_wp2_with (go_at_call 96;refine Ug d.o ?_;rintro e j ⟨rfl,a⟩;rw[a]);go_ret;exact⟨aE c.o.symm,rfl⟩
theorem ET(f:Hd)(X:Xt)(w:World)(s:aB w f (aD X))(M:X.length<=100000) :
  Calls prog 99 #[slice f.ao X.length f.cap] w fun e C=>∃p:Option Nat,e=returned (slice (wa p) X.length X.length)/\uQ C p X/\(∀q,p=some q->w.heap.size<=q)/\ae [] w C:=by
 obtain⟨J,B,t,k,v⟩:=UC jN;by_cases l:X.length=0
 ·have H:X=[]:=UI l;have r:((X.length:Int)==0)=true:=by rw[l];rfl
  clear s;go_enter func99,ntmps99;go_wp2;go_ret;exact⟨none,by rw[l];rfl,⟨⟨fun _=>H,fun _=>rfl⟩,fun b e=>by cases e⟩,(fun q e=>by cases e),ae.refl _ _⟩
 ·have r:((X.length:Int)==0)=false:=by rw[Uz];omega
  have K:=fun w=>dV (P:=prog) w 61 9 J _ underlying61 B t X.length 1 k (by rw[v];omega) (by omega);obtain⟨d,a⟩:∃L,L=madeCells (string ⟨#[]⟩).cells (X.length*1):=⟨_,rfl⟩
  have D:d.size=X.length*1:=by rw[a,VH]
  rw[<-a]at K;clear a;obtain⟨W,m⟩:=bm (w.alloc (.cells d 9));have n:=fg m.o;have A:=fE m.o;have c:(prog.info? (aD X).e).map (·.size)=some (aD X).size:=by simp[aD,B,k]
  obtain⟨z,g,i,j,y⟩:=rC (P:=prog) W 61 61 3 w.heap.size X.length f (aD X) d 9 underlying61 c A (s.Yh n) D (fun u I=>by obtain⟨x,-,rfl⟩:=Vf.1 I;rfl);have G:(Builtin.copy_ #[61,61] 3 #[slice (some ⟨w.heap.size,0,none⟩) X.length X.length,slice f.ao X.length f.cap]).run prog W=.ok (goInt X.length) z:=g;have E:Xr (uQ z (some w.heap.size) X):=⟨⟨(fun e=>by cases e),fun e=>absurd (by rw[e];rfl) l⟩,fun b e=>by cases e;exact i⟩;have F:Xr (ae [] w z):=((n.mono (S':=[w.heap.size]) (by simp)).trans j).mono (by simp);clear s n A i j y D g c;go_enter func99,ntmps99;go_upto_region 4 with fail
  rw[m.o];go_wp2;go_ret;exact⟨some w.heap.size,rfl,E.o,(fun q e=>by cases e;exact Ue _),F.o⟩
theorem nK.repAt{w:World}{x:Nat}{a:Fs}{l:List St}{H:Nat->Hd}{g:Nat}(h:nK w x a l H g):kp w x 10 l H g (cU l l.length) :=
 ⟨h.recd,h.tellA.cell,h.tellA.arr⟩
end Go.Proofs.YtnbhnocdhbcbcaaGreat
