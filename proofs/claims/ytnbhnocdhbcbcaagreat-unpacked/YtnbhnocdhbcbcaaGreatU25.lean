import Derived.Test.YtnbhnocdhbcbcaaGreatU07
import Derived.Test.YtnbhnocdhbcbcaaGreatU18
import Derived.Test.YtnbhnocdhbcbcaaGreatU24
namespace Go.Proofs.YtnbhnocdhbcbcaaGreat
open Go.RowKit Tryz
open Value IntKind Ending
set_option maxHeartbeats 0
variable{o:List UInt8}{D:Int}{l:Xs}{f:Xt}{w x:Nat}{v:Db}{b:List Sm}{I:Sm}{H:List St}{y:Xv}{i:St}(k:List Sm)(L:Sm)
theorem DE(l:Xt):∀v x,aJ (fa v l) x=(aJ v x||aJ l x):=by
 induction l with
 | nil=>intro v x;rw[jA,VM];rfl
 | cons a l f =>
  intro v x;have e:fa v (a :: l)=fa (if aJ v a=true then v else v++[a]) l:=rfl;have b:aJ (a :: l) x=((a.toList==x.toList)||aJ l x):=rfl;rw[e,f,b];by_cases h:aJ v a=true
  ·rw[Uf h];cases c:(a.toList==x.toList)
   ·rw[Vn]
   ·have d:aJ v x=true:=by
     have:a.toList=x.toList:=(by simpa using c);unfold aJ at h ⊢;rw[<-this];exact h
    rw[d];rfl
  ·rw[Ud h,xX,sQ,WD]
section
variable {T:List Tk} {t:Tk} {d:Db}
theorem pA(b:fw o d.Yw)(x:Xs)(p:Pl):aZ d x p =
  if(x.toList == [36,46])=true then mC d p
  else if(x.toList == [36,61])=true/\(d.Yw==5)=true/\d.Yg=false then cC d
  else if dD x=true then(8,d)
  else if d.Yg=true then(0,{ d with Yn:=d.Yn++[(x,p)] })
  else if(bi d x==0)=true then(0,{ d with Yc:=d.Yc++[x] })
  else(bi d x,d):=by
 have a:(d.Yw==0)=false/\(d.Yw==6)=false:=by
  generalize d.Yw=k at b
  (rcases b with ⟨rfl,rfl⟩ | ⟨rfl,rfl⟩ | ⟨rfl,rfl⟩ | ⟨rfl,rfl⟩ | ⟨rfl,rfl⟩ | ⟨rfl,rfl⟩ | ⟨rfl,rfl⟩) <;> exact⟨by decide,by decide⟩
 unfold aZ;rw[a.1,a.2,Ud (by simp),Ud (by simp)]
theorem RU(a:fw o D):(D==5)=(o == [36,112]):=by(rcases a with ⟨rfl,rfl⟩ | ⟨rfl,rfl⟩ | ⟨rfl,rfl⟩ | ⟨rfl,rfl⟩ | ⟨rfl,rfl⟩ | ⟨rfl,rfl⟩ | ⟨rfl,rfl⟩) <;> decide
theorem MU(I:tC T (aa T) d)(j:fw l.toList d.Yw)(c:d.Yc=f)(m:(aA l||aG l)=false->d.Yk=kB T (aa T))(x:Xs) :
  (if((l.toList == [36,99])||(l.toList == [36,118]))=true then kl T (aa T) x (aa T).length (l.toList == [36,99]) f else ir T (aa T) l x (aa T).length f)=bi d x:=by
 have b:=fun h=>EP I (m h) x;have a:=fun h=>LO I (m h) x;have e:iI T (aa T) x (aa T).length=aJ d.Yl x:=by rw[Js,<-I.act.l]
 have g:eO T (aa T) x (aa T).length=aJ d.Ye x:=by rw[uY,<-I.con]
 have i:decide (0<=gG T (aa T) x (aa T).length)=aJ d.Yo x:=by rw[Kc,<-I.typ.l]
 obtain⟨n,o,-⟩:=j7 (k:=l) rfl;unfold kl ir bi jH jI gi f9;rw[c];have p:(gG T (aa T) x (aa T).length<0) ↔ aJ d.Yo x=false:=by
  rw[<-i];simp
 have q:(0<=gG T (aa T) x (aa T).length) ↔ aJ d.Yo x=true:=by
  rw[<-i];simp
 generalize hkl:l.toList=r at *;generalize d.Yw=k at j ⊢;simp only[e,g,p,q];rw[n,o]at b a;rcases j with ⟨rfl,rfl⟩ | ⟨rfl,rfl⟩ | ⟨rfl,rfl⟩ | ⟨rfl,rfl⟩ | ⟨rfl,rfl⟩ | ⟨rfl,rfl⟩ | ⟨rfl,rfl⟩
 ·have b:=b (by decide);rw[b];simp only[show(([36,99]:List UInt8) == [36,99])=true from by decide,show((7:Int)==7)=true from rfl,Bool.true_or,if_true,Bool.true_and,Bool.not_true,Bool.false_and,Bool.false_eq_true,if_false];cases aJ f x <;> cases eD d x <;> simp
 ·have a:=a (by decide);rw[e,g]at a;rw[a];simp only[show(([36,118]:List UInt8) == [36,99])=false from by decide,show(([36,118]:List UInt8) == [36,118])=true from by decide,show((8:Int)==7)=false from rfl,show((8:Int)==8)=true from rfl,Bool.or_true,if_true,Bool.false_and,Bool.not_false,Bool.true_and,Bool.false_eq_true,if_false];cases aJ f x <;> cases ff d x <;> simp
 ·simp only[show(([36,100]:List UInt8) == [36,99])=false from by decide,show(([36,100]:List UInt8) == [36,118])=false from by decide,show(([36,100]:List UInt8) == [36,100])=true from by decide,show((1:Int)==7)=false from rfl,show((1:Int)==8)=false from rfl,show((1:Int)==1)=true from rfl,Bool.or_false,if_true,Bool.false_eq_true,if_false]
 ·simp only[show(([36,102]:List UInt8) == [36,99])=false from by decide,show(([36,102]:List UInt8) == [36,118])=false from by decide,show(([36,102]:List UInt8) == [36,100])=false from by decide,show(([36,102]:List UInt8) == [36,102])=true from by decide,show((2:Int)==7)=false from rfl,show((2:Int)==8)=false from rfl,show((2:Int)==1)=false from rfl,show((2:Int)==2)=true from rfl,Bool.or_false,if_true,Bool.false_eq_true,if_false,beq_iff_eq]
 ·simp only[show(([36,101]:List UInt8) == [36,99])=false from by decide,show(([36,101]:List UInt8) == [36,118])=false from by decide,show(([36,101]:List UInt8) == [36,100])=false from by decide,show(([36,101]:List UInt8) == [36,102])=false from by decide,show((3:Int)==7)=false from rfl,show((3:Int)==8)=false from rfl,show((3:Int)==1)=false from rfl,show((3:Int)==2)=false from rfl,Bool.or_false,Bool.false_eq_true,if_false,beq_iff_eq]
 ·simp only[show(([36,97]:List UInt8) == [36,99])=false from by decide,show(([36,97]:List UInt8) == [36,118])=false from by decide,show(([36,97]:List UInt8) == [36,100])=false from by decide,show(([36,97]:List UInt8) == [36,102])=false from by decide,show((4:Int)==7)=false from rfl,show((4:Int)==8)=false from rfl,show((4:Int)==1)=false from rfl,show((4:Int)==2)=false from rfl,Bool.or_false,Bool.false_eq_true,if_false,beq_iff_eq]
 ·simp only[show(([36,112]:List UInt8) == [36,99])=false from by decide,show(([36,112]:List UInt8) == [36,118])=false from by decide,show(([36,112]:List UInt8) == [36,100])=false from by decide,show(([36,112]:List UInt8) == [36,102])=false from by decide,show((5:Int)==7)=false from rfl,show((5:Int)==8)=false from rfl,show((5:Int)==1)=false from rfl,show((5:Int)==2)=false from rfl,Bool.or_false,Bool.false_eq_true,if_false,beq_iff_eq]
theorem Ru(j:fw l.toList d.Yw)(b:d.Yg=aJ f ⟨#[36,61]⟩)(e:d.Yc=f.takeWhile jE)(c:d.Yg=true->d.Yw=5/\d.Yc≠[])(p:Pl):jb l f=(mC d p).1/\((mC d p).1=0->(mC d p).2={ aW d p with Yw:=0,Yx:=⟨#[]⟩,Yc:=[],Yg:=false,Yn:=[] }/\(d.Yw=2->1<d.Yc.length)):=by
 have n:d.Yg=false->d.Yc=f:=fun h=>by rw[e];exact ua f (by rw[<-b];exact h)
 have o:d.Yg=true->0<f.length/\0<d.Yc.length:=fun h=>by
  refine⟨?_,WR.2 (c h).2⟩;rw[b]at h;cases f with
  | nil=>cases h
  | cons a f=>simp
 unfold jb mC mV;rw[<-b];generalize hkl:l.toList=r at *;generalize hkk:d.Yw=k at *;clear e b;cases i:d.Yg
 ·rw[n i];generalize f.length=m
  (rcases j with ⟨rfl,rfl⟩ | ⟨rfl,rfl⟩ | ⟨rfl,rfl⟩ | ⟨rfl,rfl⟩ | ⟨rfl,rfl⟩ | ⟨rfl,rfl⟩ | ⟨rfl,rfl⟩) <;> simp <;> (repeat' split) <;> simp_all <;> omega
 ·obtain⟨t,u⟩:=o i;have g:=(c i).1;subst g;generalize f.length=m at *;generalize d.Yc.length=s at *;rcases j with ⟨-,h⟩ | ⟨-,h⟩ | ⟨-,h⟩ | ⟨-,h⟩ | ⟨-,h⟩ | ⟨-,h⟩ | ⟨rfl,-⟩
  all_goals first | (exfalso;revert h;decide) | skip
  simp
  (repeat' split) <;> simp_all <;> omega
end
section
variable {T:List Tk} {t:Tk} {d:Db}
theorem Ca:∀{x:Xs},(x.toList == [36,46])=true->cd x=true/\io x ⟨#[36]⟩=true:=fun {x} h=>by
 rw[(j7 (dw h)).2.2,GU (dw h)];decide +kernel
theorem GS(Z:i8 T (aa T) (aa T).length)(fo:m8 T (aa T) (aa T).length)(I:tC T (aa T) d)(hk:eu T (fD T)=(l,w))(O:fD T<w)(X:w<=T.length)(K:fw l.toList d.Yw)(J:eJ T w T.length=f)(U:d.Yc=f.takeWhile jE)(R:d.Yg=true->d.Yw=5/\d.Yc≠[])(hl:d.Yk=kB T (aa T)++(if(aA l||aG l)=true then [tS T (fD T)] else []))(h0:(aA l||aG l)=true->((tS T (fD T)).toList == [])=false)(Y:(t.s.toList == [36,46])=true)(p:Pl)(G:d.Yw=2->1<d.Yc.length)(M:d.Yg=false->d.Yc=f)(y:v={ aW d p with Yw:=0,Yx:=⟨#[]⟩,Yc:=[],Yg:=false,Yn:=[] }) :
  tC (T++[t]) (aa (T++[t])) v/\uN (T++[t]) v:=by
 obtain⟨W,-⟩:=Ca Y;obtain⟨C,V⟩:=oc T t;rw[Uf W,pi hk O X K]at C;rw[Uf W]at V;simp only at C;have r:bA (T++[t]) w=d.Yc:=by
  unfold bA;rw[U9 X,tM _ t (fun u hu=>?_) Y,U,<-J,mt];have:=vt T w (by omega) u hu;unfold cd at this;simp only[Bool.or_eq_false_iff]at this;exact this.1.1
 have D:=K.dep.1;obtain⟨s,H⟩:∃s:Sm,s=⟨fD T,T.length+1,w,l⟩:=⟨_,rfl⟩
 rw[<-H]at C;have q:s.k=l:=by rw[H]
 have B:s.h=w:=by rw[H]
 have S:s.a=fD T:=by rw[H]
 have v1:E0 (T++[t]) (aa T++[s]) (aa T).length=if(l.toList == [36,118])=true then d.Yc else []:=by
  unfold E0;rw[lF,q,B,r]
 have v2:JW (T++[t]) (aa T++[s]) (aa T).length=if(l.toList == [36,99])=true then d.Yc else []:=by
  unfold JW;rw[lF,q,B,r]
 have v3:II (T++[t]) (aa T++[s]) (aa T).length=if(l.toList == [36,102])=true then [tS (T++[t]) (w+1)] else []:=by
  unfold II;rw[lF,q,B]
 have E:kB (T++[t]) (aa T++[s])=d.Yk:=by
  rw[vn s Z,hl];congr 1;cases L:(aA l||aG l)
  ·rw[Ud (by simp)];exact FW (by rw[q];exact L)
  ·have e:tS (T++[t]) s.a=tS T (fD T):=(by rw[S,fY T [t] _ (by omega)]);rw[Uf rfl,<-e];exact P9 (by rw[q];exact L) (by rw[e];exact h0 L)
 have Q:fD (T++[t])=(T++[t]).length:=by rw[V];simp
 have dv:v.Ye=(aW d p).Ye/\v.Yf=(aW d p).Yf/\v.Yl=(aW d p).Yl/\v.Yo=(aW d p).Yo/\v.Yy=(aW d p).Yy/\v.Yk=(aW d p).Yk:=by
  rw[y];exact⟨rfl,rfl,rfl,rfl,rfl,rfl⟩
 obtain⟨b,c,g,i,j,m⟩:=dv;rw[C];have A:v.Ye=d.Ye++(if(l.toList == [36,99])=true then d.Yc else [])->(∀x,aJ v.Yf x=(aJ d.Yf x||aJ (if(l.toList == [36,118])=true then d.Yc else []) x))->v.Yl=d.Yl++(if(l.toList == [36,118])=true then d.Yc else [])->v.Yo=d.Yo++(if(l.toList == [36,102])=true then [tS (T++[t]) (w+1)] else [])->v.Yy=d.Yy->v.Yk=d.Yk->tC (T++[t]) (aa T++[s]) v/\uN (T++[t]) v:=fun g1 g2 g3 g4 g5 g6 =>
  ⟨I.close Z fo s (fun o=>by rw[q];exact D o) (by rw[v2];exact g1) (fun x=>by rw[v1];exact g2 x) (by rw[v1];exact g3) (by rw[v3];exact g4) g5,
   uN.none Q (by rw[y]) (by rw[y]) (by rw[y]) (by rw[C,E];exact g6)⟩
 -- the seven keys
 have n:∀k:Int,d.Yw=k->(k==7)=false->(k==8)=false->(k==2)=false->aW d p=nM d p:=fun k N e7 e8 e2=>by
  unfold aW oe;rw[N,e7,e8,e2];simp
 generalize hkl:l.toList=ac at *;generalize hkk:d.Yw=k at *;rcases K with ⟨rfl,rfl⟩ | ⟨rfl,rfl⟩ | ⟨rfl,rfl⟩ | ⟨rfl,rfl⟩ | ⟨rfl,rfl⟩ | ⟨rfl,rfl⟩ | ⟨rfl,rfl⟩
 ·have e:aW d p={ d with Ye:=d.Ye++d.Yc }:=by unfold aW;rw[hkk];rfl
  rw[e]at b c g i j m;exact A (by rw[b];rfl) (fun x=>by rw[c];simp[jA]) (by rw[g];simp) (by rw[i];simp) j m
 ·have e:aW d p=eG d d.Yc.length:=by unfold aW;rw[hkk];rfl
  rw[e]at b c g i j m;unfold eG at b c g i j m;exact A (by rw[b];simp) (fun x=>by rw[c];simp only[List.take_length];rw[DE];rfl) (by rw[g];rfl) (by rw[i];simp) j m
 ·have e:=n 1 rfl rfl rfl rfl;rw[e]at b c g i j m;unfold nM at b c g i j m;exact A (by rw[b];simp) (fun x=>by rw[c];simp[jA]) (by rw[g];simp) (by rw[i];simp) j m
 ·have G:=G rfl;have P:d.Yg=false:=by
   cases h:d.Yg
   ·rfl
   ·exact absurd (R h).1 (by decide)
  have F:=M P;have e:aW d p=nM { d with Yo:=d.Yo++[d.Yc.getD 1 ⟨#[]⟩] } p:=by
   unfold aW oe;rw[hkk,Ud (by decide),Ud (by decide),Uf ⟨rfl,G⟩]
  have hg:d.Yc.getD 1 ⟨#[]⟩=tS (T++[t]) (w+1):=by
   have z:w+1<T.length:=by
    rw[F,<-J,mt,Uy,UX]at G;omega
   rw[F,<-J,mt,fY T [t] _ z];unfold tS;rw[Uc,Uc,UL,VQ,Ub z];rfl
  rw[e]at b c g i j m;unfold nM at b c g i j m;exact A (by rw[b];simp) (fun x=>by rw[c];simp[jA]) (by rw[g];simp) (by rw[i,hg];rfl) j m
 ·have e:=n 3 rfl rfl rfl rfl;rw[e]at b c g i j m;unfold nM at b c g i j m;exact A (by rw[b];simp) (fun x=>by rw[c];simp[jA]) (by rw[g];simp) (by rw[i];simp) j m
 ·have e:=n 4 rfl rfl rfl rfl;rw[e]at b c g i j m;unfold nM at b c g i j m;exact A (by rw[b];simp) (fun x=>by rw[c];simp[jA]) (by rw[g];simp) (by rw[i];simp) j m
 ·have e:=n 5 rfl rfl rfl rfl;rw[e]at b c g i j m;unfold nM at b c g i j m;exact A (by rw[b];simp) (fun x=>by rw[c];simp[jA]) (by rw[g];simp) (by rw[i];simp) j m
theorem Ct(n:i8 T (aa T) (aa T).length)(z:m8 T (aa T) (aa T).length)(I:tC T (aa T) d)(D:eu T (fD T)=(l,w))(b:fD T<w)(m:w<=T.length)(k:fw l.toList d.Yw)(B:eJ T w T.length=f)(E:d.Yk=kB T (aa T)++(if(aA l||aG l)=true then [tS T (fD T)] else []))(A:(aA l||aG l)=true->((tS T (fD T)).toList == [])=false)(C:cd t.s=false)(o:v.Ye=d.Ye)(p:v.Yf=d.Yf)(q:v.Yl=d.Yl)(r:v.Yo=d.Yo)(u:v.Yy=d.Yy)(x:v.Yk=d.Yk)(y:v.Yw=d.Yw)(e:v.Yg=aJ (f++[t.s]) ⟨#[36,61]⟩)(i:v.Yc=(f++[t.s]).takeWhile jE)(g:v.Yg=true->v.Yw=5/\v.Yc≠[]):tC (T++[t]) (aa (T++[t])) v/\uN (T++[t]) v:=by
 obtain⟨j,c⟩:=ma (T:=T) (t:=t) C;have a:tS (T++[t]) (fD (T++[t]))=tS T (fD T):=by rw[c,fY T [t] _ (by omega)]
 refine⟨by rw[j];exact I.same n z o p q r u,uN.body l w (f++[t.s]) (by rw[c];exact pi D b m k) (by rw[c];exact b) (by simp;omega) (by rw[y];exact k) (by rw[MM t w m,B]) e i g ?_ (fun h=>by rw[a];exact A h)⟩;rw[j,rH n,a,x];exact E
theorem LE(E:i8 T (aa T) (aa T).length)(u:m8 T (aa T) (aa T).length)(I:tC T (aa T) d)(C:eu T (fD T)=(l,w))(b:fD T<w)(B:w<=T.length)(j:fw l.toList d.Yw)(A:eJ T w T.length=f)(a:d.Yg=aJ f ⟨#[36,61]⟩)(i:d.Yc=f.takeWhile jE)(m:d.Yg=true->d.Yw=5/\d.Yc≠[])(r:d.Yk=kB T (aa T)++(if(aA l||aG l)=true then [tS T (fD T)] else []))(x:(aA l||aG l)=true->((tS T (fD T)).toList == [])=false)(p:Pl) :
  mO T (aa T) l t.s (aa T).length f=(aZ d t.s p).1/\((aZ d t.s p).1=0->tC (T++[t]) (aa (T++[t])) (aZ d t.s p).2/\uN (T++[t]) (aZ d t.s p).2):=by
 have k:d.Yg=false->d.Yc=f:=fun h=>by rw[i];exact ua f (by rw[<-a];exact h)
 have o:(⟨#[36,61]⟩:Xs).toList=[36,61]:=by decide +kernel
 rw[pA j];unfold mO;cases P:(t.s.toList == [36,46])
 ·simp only[Bool.false_eq_true,if_false];rw[<-a,<-RU j];cases y:((t.s.toList == [36,61])&&((d.Yw==5) && !d.Yg))
  ·have G:¬((t.s.toList == [36,61])=true/\(d.Yw==5)=true/\d.Yg=false):=fun h=>by
    rw[h.1,h.2.1,h.2.2]at y;cases y
   simp only[Bool.false_eq_true,if_false];rw[Ud G,iV];cases N:dD t.s
   ·have c:cd t.s=false:=by
     cases K:cd t.s
     ·rfl
     ·have:=(lH K).1;rw[iV,N]at this;cases this
    have L:(t.s.toList == [36,61])=false:=by
     cases K:(t.s.toList == [36,61])
     ·rfl
     ·have e:=GU (dw K);rw[iV,N]at e;exact absurd e (by decide +kernel)
    simp only[Bool.false_eq_true,if_false];cases z:d.Yg
    ·have D:=k z;simp only[Bool.false_eq_true,if_false];have Q:=MU I j D (fun h=>by rw[r,Ud (by rw[h];simp),UE]) t.s;rw[Q];have g:aJ (f++[t.s]) ⟨#[36,61]⟩=false:=by
      rw[xX,sQ,<-a,z,o,L];rfl
     cases H:(bi d t.s==0)
     ·simp only[Bool.false_eq_true,if_false];exact⟨trivial,fun h=>by rw[h]at H;cases H⟩
     ·rw[Uf rfl];refine⟨by simpa using H,fun _=>Ct E u I C b B j A r x c rfl rfl rfl rfl rfl rfl rfl g.symm ?_ (fun h=>Bool.noConfusion h)⟩;rw[ua _ g];simp only;rw[D]
    ·have O:aJ f ⟨#[36,61]⟩=true:=(by rw[<-a];exact z);rw[Uf rfl,Uf rfl];exact⟨rfl,fun _=>Ct E u I C b B j A r x c rfl rfl rfl rfl rfl rfl rfl (by rw[xX,O,Wh]) (by rw[OG _ _ O];exact i) (fun _=>m z)⟩
   ·rw[Uf rfl,Uf rfl];exact⟨rfl,fun h=>by cases h⟩
  ·simp only[Bool.and_eq_true,Bool.not_eq_true']at y;obtain⟨v,M,F⟩:=y;have D:=k F;rw[Uf rfl,Uf (show(t.s.toList == [36,61])=true/\(d.Yw==5)=true/\d.Yg=false from⟨v,M,F⟩)];unfold cC;rw[D];by_cases n:f.length=0
   ·rw[Uf n,Uf n];exact⟨rfl,fun h=>by cases h⟩
   ·rw[Ud n,Ud n];have c:cd t.s=false:=(by rw[(j7 (dw v)).2.2];decide);have J:aJ f ⟨#[36,61]⟩=false:=(by rw[<-a];exact F);have g:aJ (f++[t.s]) ⟨#[36,61]⟩=true:=(by rw[xX,sQ,o,v,X0]);refine⟨rfl,fun _=>Ct E u I C b B j A r x c rfl rfl rfl rfl rfl rfl rfl g.symm ?_ (fun _=>⟨by simpa using M,?_⟩)⟩
    ·have q:=Nm f J;rw[List.takeWhile_append_of_pos q,V5 (by unfold jE;rw[v];simp),UE]
    ·simp only;intro e;rw[e]at n;exact n rfl
 ·rw[Uf rfl,Uf rfl];obtain⟨R,S⟩:=Ru j a i m p;refine⟨R,fun h=>?_⟩;obtain⟨U,V⟩:=S h;exact GS E u I C b B j A i m r x P p V k U
theorem qH(a:(l.toList == [36,123])=false)(b:(l.toList == [36,125])=false)(o:Int):aP o l=o:=by
 unfold aP;rw[a,b];rfl
theorem By(h:dD l=false)(o:Int):aP o l=o:=by
 have a:cd l=false:=by
  cases b:cd l
  ·rfl
  ·have:=(lH b).1;rw[iV,h]at this;cases this
 unfold cd at a;simp only[Bool.or_eq_false_iff]at a;exact qH a.1.2 a.2 o
theorem xE(d:Db)(p:Pl):(aW d p).Yy=d.Yy:=by
 unfold aW eG nM oe;split
 ·rfl
 ·split
  ·rfl
  ·split <;> rfl
theorem EO(o:uN T d)(x:Xs)(p:Pl)(h:(aZ d x p).1=0):((aZ d x p).2.Yy.length:Int)=aP (d.Yy.length:Int) x:=by
 rcases o with ⟨u,i,g,f,n⟩ | ⟨u,i,g,f,n,y,w⟩ | ⟨C,m,B,i,v,a,t,F,f,g,z,n,E⟩
 ·have e:aZ d x p=ay d x:=by unfold aZ;rw[i];rfl
  rw[e]at h ⊢;cases b:(x.toList == [36,123])
  ·cases c:(x.toList == [36,125])
   ·rw[qH b c];unfold ay bU;rw[b,c,Ud (by simp),Ud (by simp)]
    repeat' split
    all_goals rfl
   ·have j:ay d x=(match d.Yy.getLast? with | none=>(9,d) | some p=>(0,dc d p)):=by
     unfold ay;rw[b,c,Ud (by simp),Uf rfl];rfl
    rw[j]at h ⊢;cases k:d.Yy.getLast? with
    | none=>rw[k]at h;cases h
    | some q =>
     have r:0<d.Yy.length:=by
      rw[WR];intro e;rw[e]at k;cases k
     have s:(dc d q).Yy=d.Yy.dropLast:=by
      unfold dc dA;split <;> rfl
     simp only;rw[s,sN (dw c),VT]
     show((d.Yy.length-1:Nat):Int)=(d.Yy.length:Int)-1
     omega
  ·have j:ay d x=(0,{ d with Yy:=d.Yy++[(d.Yl.length,d.Yo.length)],rbl:=d.rbl++[d.Yt.length] }):=by
    unfold ay;rw[b,Uf rfl]
   rw[j,sN (dw b)];simp only[List.length_append,List.length_cons,List.length_nil]
   show((d.Yy.length+(0+1):Nat):Int)=(d.Yy.length:Int)+1
   omega
 ·have e:aZ d x p=aI d x:=by unfold aZ;rw[i];rfl
  rw[e]at h ⊢;have A:aP (d.Yy.length:Int) x=(d.Yy.length:Int):=by
   refine qH ?_ ?_ _
   ·cases a:(x.toList == [36,123])
    ·rfl
    ·exfalso
     unfold aI at h;rw[cK a,cK a,cK a,cK a,Ud (by decide),Ud (by decide),Ud (by decide),Ud (by decide)]at h;cases h
   ·cases a:(x.toList == [36,125])
    ·rfl
    ·exfalso
     unfold aI at h;rw[cK a,cK a,cK a,cK a,Ud (by decide),Ud (by decide),Ud (by decide),Ud (by decide)]at h;cases h
  rw[A];unfold aI
  repeat' split
  all_goals rfl
 ·rw[pA t]at h ⊢;cases b:(x.toList == [36,46])
  ·rw[b,Ud (by simp)]at h;rw[Ud (by simp)];by_cases c:(x.toList == [36,61])=true/\(d.Yw==5)=true/\d.Yg=false
   ·rw[Uf c,qH (by rw[cK c.1];decide) (by rw[cK c.1];decide)];unfold cC;split <;> rfl
   ·rw[Ud c]at h ⊢;cases l:dD x
    ·rw[By l,Ud (by simp)]
     repeat' split
     all_goals rfl
    ·rw[l,Uf rfl]at h;cases h
  ·rw[Uf rfl,qH (by rw[cK b];decide) (by rw[cK b];decide)];unfold mC;split
   ·rfl
   ·split
    ·rfl
    ·simp only;rw[xE]
end
def lM(S:List Sm)(j:Nat):Bool:=((aq S j).k.toList == [36,100])||((aq S j).k.toList == [36,102])||((aq S j).k.toList == [36,101])||((aq S j).k.toList == [36,97])||((aq S j).k.toList == [36,112])
def lO(S:List Sm):Xv:=(List.range S.length).filter (lM S)
def av(S:List Sm)(n:Nat):Nat:=(lO S).getD n S.length
theorem Nz(j:Nat)(a:j<k.length):lM (k++[L]) j=lM k j:=by
 unfold lM;rw[jQ k [L] j a]
theorem nG:lO (k++[L])=lO k++(if lM (k++[L]) k.length=true then [k.length] else []):=by
 unfold lO;rw[cY,Vr,Vi,gn (fun j a=>Nz k L j a)];congr 1;cases h:lM (k++[L]) k.length <;> simp[h]
theorem QA(h:(lO b)[w]?=some x):x<b.length:=by
 have:=Vq h;exact Up.1 (UP.1 this).1
theorem Qz(h:w<(lO b).length):av b w<b.length:=by
 have e:(lO b)[w]?=some (av b w):=by unfold av;rw[Uc,Ub h];rfl
 exact QA e
theorem N4:av k (lO k).length=k.length:=by
 unfold av;rw[Uc,UT (Ue _)];rfl
theorem N3(h:w<(lO b).length):av (b++[I]) w=av b w:=by
 unfold av;rw[nG,Uc,Uc,Uv h,Ub h];rfl
theorem gQ{S:List Sm}{n a:Nat}(h:n<a)(b:a<(lO S).length):av S n<av S a:=by
 have c:(lO S).Pairwise (· < ·):=Xw _ Wy;have:=Wn.1 c n a (by omega) b h;unfold av;rw[Uc,Uc,Ub b,Ub (by omega)];exact this
theorem tI(a:w<=x)(c:x<=b.length):aO (b++[I]) w x=aO b w x:=by
 unfold aO;rw[U9 (by omega),Vg (by rw[UX];omega)]
theorem rD(a:w<=b.length):bq (b++[I]) w=bq b w:=by
 unfold bq;rw[Vg a]
theorem Iv(a:w<=b.length):aO (b++[I]) w (b.length+1)=(aO b w b.length&&decide (bq b w<=aP (bq b b.length) I.k)):=by
 rw[oY (b++[I]) w b.length a (by rw[cY];omega),tI a (Ue _),rD a,iU]
theorem Bf(a:w<=b.length)(h:aO b w b.length=true):bq b w<=bq b b.length:=Bg b w b.length a (Ue _) h b.length a (Ue _)
theorem oX(a:w<=b.length)(c:∀o,o<=aP o I.k):aO (b++[I]) w (b.length+1)=aO b w b.length:=by
 rw[Iv a];cases h:aO b w b.length
 ·rfl
 ·have:=Bf a h;have:=c (bq b b.length);simp;omega
structure oG(S:List Sm)(l:List St)(rb:Xv):Prop where
 len:l.length=(lO S).length
 til:∀(n:Nat) (s:St),l[n]?=some s->ph s.Yw=false->∀a,n<a->a<=l.length->(s.til==0||decide (a<s.til))=aO S (av S n) (av S a)
 le:∀(n:Nat) (s:St),l[n]?=some s->s.til<=l.length
 dep:bq S S.length=(rb.length:Int)
 rbl:∀i,i<rb.length->rb.getD i 0<=l.length/\∀n,n<l.length->aO S (av S n) S.length=true->(rb.getD i 0<=n ↔ (i:Int)<bq S (av S n))
theorem oG.nil:oG [] [] []:=⟨rfl,(fun n s h=>by cases h),(fun n s h=>by cases h),rfl,fun i h=>by cases h⟩
theorem oG.at_(h:oG b H y)(a:w<H.length):av b w<b.length:=Qz (by rw[<-h.len];exact a)
theorem oG.ix(h:oG b H y)(s:Sm)(a:w<H.length):av (b++[s]) w=av b w:=N3 (by rw[<-h.len];exact a)
theorem oG.ixEnd(h:oG b H y):av b H.length=b.length:=by rw[h.len];exact N4 b
theorem oG.now(h:oG b H y)(a:H[w]?=some i)(c:ph i.Yw=false):(i.til==0)=aO b (av b w) b.length:=by
 have d:=(Uk.1 a).1;have:=h.til w i a c H.length d (Ue _);rw[h.ixEnd]at this;rw[<-this];have:=h.le w i a;rw[Vx (by omega),VM]
theorem oG.other(h:oG b H y)(s:Sm)(G:lM (b++[s]) b.length=false)(u:∀o,o<=aP o s.k)(f:Xv)(F:aP (bq b b.length) s.k=f.length)(E:f=y∨f=y++[H.length]):oG (b++[s]) H f:=by
 have e:lO (b++[s])=lO b:=by rw[nG,Ud (by rw[G];simp),UE]
 have A:av (b++[s]) H.length=b.length+1:=by
  unfold av;rw[e,Uc,UT (by rw[h.len];exact Ue _)];exact cY b s
 refine⟨by rw[e];exact h.len,fun n t v x a g l=>?_,h.le,by rw[cY,iU];exact F,fun i j=>?_⟩
 ·have d:=(Uk.1 v).1;have m:=h.at_ d;rw[h.ix s d];by_cases B:a=H.length
  ·subst B;rw[A,oX (by omega) u,h.til n t v x _ g l,h.ixEnd]
  ·have c:a<H.length:=(by omega);have:=h.at_ c;have r:av b n<=av b a:=Vb (gQ g (by rw[<-h.len];exact c));rw[h.ix s c,tI r (by omega)];exact h.til n t v x a g l
 ·rw[cY];have p:∀i,i<y.length->y.getD i 0<=H.length/\∀n,n<H.length->aO (b++[s]) (av (b++[s]) n) (b.length+1)=true->(y.getD i 0<=n ↔ (i:Int)<bq (b++[s]) (av (b++[s]) n)):=fun i j=>by
   obtain⟨C,D⟩:=h.rbl i j;refine⟨C,fun n d c=>?_⟩;have m:=h.at_ d;rw[h.ix s d]at c ⊢;rw[oX (by omega) u]at c;rw[rD (by omega)];exact D n d c
  rcases E with rfl | rfl
  ·exact p i j
  ·rw[Uh]at j;replace j:i<y.length+1:=j;by_cases w:i<y.length
   ·have q:(y++[H.length]).getD i 0=y.getD i 0:=(by rw[Uc,Uc,Uv w]);rw[q];exact p i w
   ·have q:i=y.length:=(by omega);subst q;have z:(y++[H.length]).getD y.length 0=H.length:=by rw[Uc,Ur (Ue _),U3];rfl
    rw[z];refine⟨Ue _,fun n d c=>?_⟩;have m:=h.at_ d;rw[h.ix s d]at c ⊢;rw[oX (by omega) u]at c;rw[rD (by omega)];have:=Bf (by omega) c;have:=h.dep;omega
theorem oG.Yu(h:oG b H y)(s:Sm)(K:lM (b++[s]) b.length=true)(B:∀o,aP o s.k=o)(t:St)(L:t.til=0):oG (b++[s]) (H++[t]) y:=by
 have d:∀o,o<=aP o s.k:=fun o=>by rw[B o];exact WK _
 have e:lO (b++[s])=lO b++[b.length]:=by rw[nG,Uf K]
 have m:(H++[t]).length=H.length+1:=by rw[Uh];rfl
 have q:av (b++[s]) H.length=b.length:=by
  unfold av;rw[e,h.len,Uc,Ur (Ue _),U3];rfl
 have A:av (b++[s]) (H.length+1)=b.length+1:=by
  unfold av;rw[e,Uc,UT (by rw[Uh,h.len];exact Ue _)];exact cY b s
 have f:aO (b++[s]) b.length (b.length+1)=true:=by
  rw[oX (Ue _) d];exact CZ b b.length
 refine⟨by rw[m,e,Uh,h.len];rfl,fun n u c w a l v=>?_,fun n u c=>?_,by rw[cY,iU,B];exact h.dep,fun i J=>?_⟩
 ·rw[m]at v;by_cases g:n<H.length
  ·rw[Uv g]at c;have z:=h.at_ g;have M:=h.le n u c;rw[h.ix s g];by_cases j:a<H.length
   ·have:=h.at_ j;have x:av b n<=av b a:=Vb (gQ l (by rw[<-h.len];exact j));rw[h.ix s j,tI x (by omega)];exact h.til n u c w a l (by omega)
   ·by_cases D:a=H.length
    ·subst D;rw[q,tI (by omega) (Ue _),<-h.now c w,Vx (by omega),VM]
    ·have E:a=H.length+1:=(by omega);subst E;rw[A,oX (by omega) d,<-h.now c w,Vx (by omega),VM]
  ·have F:n=H.length:=(by omega);have j:a=H.length+1:=(by omega);subst F j;rw[Ur (Ue _),U3]at c;cases c
   rw[q,A,f,L];rfl
 ·rw[m];by_cases g:n<H.length
  ·rw[Uv g]at c;have:=h.le n u c;omega
  ·have:=(Uk.1 c).1;rw[m]at this;rw[Ur (by omega),show n-H.length=0 by omega]at c;cases c
   omega
 ·obtain⟨G,I⟩:=h.rbl i J;rw[m,cY];refine⟨by omega,fun n g r=>?_⟩;by_cases p:n<H.length
  ·have z:=h.at_ p;rw[h.ix s p]at r ⊢;rw[oX (by omega) d]at r;rw[rD (by omega)];exact I n p r
  ·have C:n=H.length:=(by omega);subst C;rw[q,rD (Ue _),h.dep];constructor
   ·intro _;omega
   ·intro _;exact G
theorem pb(h:(kL H w)[x]?=some i):∃v,H[x]?=some v/\i=(if w<=x/\x<H.length then lR H.length v else v):=by
 unfold kL at h;rw[nC]at h;cases e:H[x]? with
 | none=>rw[e]at h;cases h
 | some v=>rw[e]at h;simp only[Option.map_some,Option.some.injEq]at h;exact⟨v,rfl,h.symm⟩
theorem oG.pop(h:oG b H (y++[w]))(s:Sm)(R:lM (b++[s]) b.length=false)(J:∀o,aP o s.k=o-1):oG (b++[s]) (kL H w) y:=by
 have e:lO (b++[s])=lO b:=by rw[nG,Ud (by rw[R];simp),UE]
 have t:(kL H w).length=H.length:=kV H w H.length;have N:av (b++[s]) H.length=b.length+1:=by
  unfold av;rw[e,Uc,UT (by rw[h.len];exact Ue _)];exact cY b s
 have P:bq b b.length=(y.length:Int)+1:=by rw[h.dep,Uh];rfl
 obtain⟨B,l⟩:=h.rbl y.length (by rw[Uh];exact Nat.lt_succ_self _);have M:(y++[w]).getD y.length 0=w:=by rw[Uc,Ur (Ue _),U3];rfl
 rw[M]at B l;have K:∀n,n<H.length->aO (b++[s]) (av b n) (b.length+1)=(aO b (av b n) b.length&&decide (n<w)):=fun n d=>by
  have p:=h.at_ d;rw[Iv (by omega)];cases g:aO b (av b n) b.length
  ·rfl
  ·have q:=l n d g;have:=Bf (by omega) g;rw[J,VI,VI];by_cases c:n<w
   ·rw[Vy c];exact Vy (by omega)
   ·rw[Vx c];exact Vx (by omega)
 refine⟨by rw[t,e];exact h.len,fun n u D m a r A=>?_,fun n u D=>?_,by rw[cY,iU,J,P];omega,fun i I=>?_⟩
 ·obtain⟨v,j,rfl⟩:=pb D;have d:=(Uk.1 j).1;have p:=h.at_ d;rw[t]at A;have f:ph v.Yw=false:=by
   split at m
   ·unfold lR at m;split at m <;> exact m
   ·exact m
  have E:=h.now j f;rw[h.ix s d];have Q:=h.le n v j;by_cases x:a<H.length
  ·have:=h.at_ x;have C:av b n<=av b a:=Vb (gQ r (by rw[<-h.len];exact x));rw[h.ix s x,tI C (by omega),<-h.til n v j f a r (by omega)];split
   ·unfold lR;split
    ·next c=>rw[c.1];simp;omega
    ·rfl
   ·rfl
  ·have O:a=H.length:=(by omega);subst O;rw[N,K n d,<-E];by_cases c:w<=n
   ·rw[Uf ⟨c,d⟩,Vx (show ¬n<w by omega),Bool.and_false];unfold lR;by_cases z:v.til=0
    ·rw[Uf ⟨z,f⟩]
     show(H.length==0||decide (H.length<H.length))=false
     rw[Uz.2 (show H.length≠0 by omega),Vx (Nat.lt_irrefl _)];rfl
    ·rw[Ud (fun q=>z q.1)];have:(v.til==0)=false:=Uz.2 z;rw[this,Vx (show ¬H.length<v.til by omega)];rfl
   ·rw[Ud (fun q=>c q.1),Vy (show n<w by omega),Bool.and_true,Vx (show ¬H.length<v.til by omega),VM]
 ·obtain⟨v,j,rfl⟩:=pb D;have:=h.le n v j;rw[t];split
  ·unfold lR;split
   ·exact Ue _
   ·exact this
  ·exact this
 ·obtain⟨F,G⟩:=h.rbl i (by rw[Uh];exact Nat.lt_succ_of_lt I);have L:(y++[w]).getD i 0=y.getD i 0:=by rw[Uc,Uc,Uv I]
  rw[L]at F G;rw[t,cY];refine⟨F,fun n d g=>?_⟩;have p:=h.at_ d;rw[h.ix s d]at g ⊢;rw[K n d,Ux]at g;rw[rD (by omega)];exact G n d g.1
def Qa(k:Int):Bool:=decide (2<=k/\k<=6)
structure gw(T:List Tk)(d:Db):Prop where
 hel:oG (aa T) d.Yt d.rbl
 ct:∀(n:Nat) (s:St),d.Yt[n]?=some s->fw (aq (aa T) (av (aa T) n)).k.toList s.Yw/\s.Yx=bD T (aq (aa T) (av (aa T) n))/\s.Yc=bA T (aq (aa T) (av (aa T) n)).h/\dS T (aq (aa T) (av (aa T) n)).h
 lab:d.Yx=if Qa d.Yw=true then tS T (fD T) else⟨#[]⟩
section
variable {T:List Tk} {t:Tk} {d d':Db}
theorem ud:lM (k++[L]) k.length=(((L.k.toList == [36,100])||(L.k.toList == [36,102])||(L.k.toList == [36,101])||(L.k.toList == [36,97])||(L.k.toList == [36,112]))):=by
 unfold lM;rw[lF]
theorem gw.old(R:gw T d)(r:i8 T (aa T) (aa T).length){M:List Sm}{b:St}(p:w<d.Yt.length)(q:d.Yt[w]?=some i)(e:av (aa T++M) w=av (aa T) w)(g:b.Yw=i.Yw)(j:b.Yx=i.Yx)(l:b.Yc=i.Yc) :
  fw (aq (aa T++M) (av (aa T++M) w)).k.toList b.Yw/\b.Yx=bD (T++[t]) (aq (aa T++M) (av (aa T++M) w))/\b.Yc=bA (T++[t]) (aq (aa T++M) (av (aa T++M) w)).h/\dS (T++[t]) (aq (aa T++M) (av (aa T++M) w)).h:=by
 obtain⟨m,n,o,f⟩:=R.ct w i q;have c:=R.hel.at_ p;rw[e,jQ _ _ _ c,g,j,l];refine⟨m,?_,?_,LK T [t] _ f⟩
 ·rw[n];unfold bD;rw[fY T [t] _ (r.a _ c)]
 ·rw[o,qE T [t] _ f]
theorem gw.Yh(R:gw T d)(k:i8 T (aa T) (aa T).length)(i:cd t.s=false)(c:d'.Yt=d.Yt)(f:d'.rbl=d.rbl)(g:d'.Yx=if Qa d'.Yw=true then tS (T++[t]) (fD T) else⟨#[]⟩):gw (T++[t]) d':=by
 obtain⟨b,e⟩:=ma (T:=T) (t:=t) i;refine⟨by rw[b,c,f];exact R.hel,fun n s a=>?_,by rw[e];exact g⟩;rw[c]at a;have j:=(Uk.1 a).1;rw[b];have:=R.old (t:=t) k (M:=[]) j a (by rw[UE]) rfl rfl rfl;rw[UE]at this;exact this
theorem gw.other(R:gw T d)(p:i8 T (aa T) (aa T).length)(s:Sm)(c:aa (T++[t])=aa T++[s])(l:lM (aa T++[s]) (aa T).length=false)(m:∀o,o<=aP o s.k)(j:aP (bq (aa T) (aa T).length) s.k=(d'.rbl.length:Int))(i:d'.rbl=d.rbl∨d'.rbl=d.rbl++[d.Yt.length])(b:d'.Yt=d.Yt)(f:d'.Yx=⟨#[]⟩)(g:d'.Yw=0):gw (T++[t]) d':=by
 refine⟨by rw[c,b];exact R.hel.other s l m d'.rbl j i,fun n u a=>?_,by rw[f,g];rfl⟩;rw[b]at a;have e:=(Uk.1 a).1;rw[c];exact R.old p e a (R.hel.ix s e) rfl rfl rfl
theorem gw.Yu(R:gw T d)(z:i8 T (aa T) (aa T).length)(s:Sm)(f:aa (T++[t])=aa T++[s])(g:lM (aa T++[s]) (aa T).length=true)(x:∀o,aP o s.k=o)(u:St)(y:u.til=0)(p:fw s.k.toList u.Yw)(w:u.Yx=bD (T++[t]) s)(q:u.Yc=bA (T++[t]) s.h)(r:dS (T++[t]) s.h)(c:d'.Yt=d.Yt++[u])(i:d'.rbl=d.rbl)(j:d'.Yx=⟨#[]⟩)(l:d'.Yw=0):gw (T++[t]) d':=by
 refine⟨by rw[f,c,i];exact R.hel.Yu s g x u y,fun n v a=>?_,by rw[j,l];rfl⟩;rw[c]at a;rw[f];by_cases b:n<d.Yt.length
 ·rw[Uv b]at a;exact R.old z b a (R.hel.ix s b) rfl rfl rfl
 ·have e:n=d.Yt.length:=by
   have:=(Uk.1 a).1;rw[Uh]at this;have:n<d.Yt.length+1:=this;omega
  subst e;rw[Ur (Ue _),U3]at a;cases a
  have m:av (aa T++[s]) d.Yt.length=(aa T).length:=by
   unfold av;rw[nG,Uf g,R.hel.len,Uc,Ur (Ue _),U3];rfl
  rw[m,lF];exact⟨p,w,q,r⟩
theorem gw.pop(R:gw T d)(x:i8 T (aa T) (aa T).length)(s:Sm)(b:aa (T++[t])=aa T++[s])(m:lM (aa T++[s]) (aa T).length=false)(p:∀o,aP o s.k=o-1)(g:d.rbl=y++[w])(a:d'.Yt=kL d.Yt w)(i:d'.rbl=y)(j:d'.Yx=⟨#[]⟩)(l:d'.Yw=0):gw (T++[t]) d':=by
 have h:=R.hel;rw[g]at h;refine⟨by rw[b,a,i];exact h.pop s m p,fun n u e=>?_,by rw[j,l];rfl⟩;rw[a]at e;obtain⟨v,f,r⟩:=pb e;have c:=(Uk.1 f).1;have q:u.Yw=v.Yw/\u.Yx=v.Yx/\u.Yc=v.Yc:=by
  rw[r];split
  ·unfold lR;split <;> exact⟨rfl,rfl,rfl⟩
  ·exact⟨rfl,rfl,rfl⟩
 rw[b];exact R.old x c f (R.hel.ix s c) q.1 q.2.1 q.2.2
end
section
variable {T:List Tk} {t:Tk} {d:Db}
theorem rF(h:dD l=false):cd l=false:=by
 cases a:cd l
 ·rfl
 ·have:=(lH a).1;rw[iV,h]at this;cases this
theorem fQ(h:(l.toList==o)=true)(a:((o == [36,46])||(o == [36,123])||(o == [36,125]))=false):cd l=false:=by
 rw[(j7 (dw h)).2.2];exact a
theorem gw.first(R:gw T d)(b:i8 T (aa T) (aa T).length)(A:bq (aa T) (aa T).length=(d.Yy.length:Int))(p:fD T=T.length)(u:d.Yw=0)(a:(ay d t.s).1=0):gw (T++[t]) (ay d t.s).2:=by
 have g:d.Yx=⟨#[]⟩:=by rw[R.lab,u];rfl
 unfold ay at *;by_cases c:(t.s.toList == [36,123])=true
 ·rw[Uf c];obtain⟨k,-⟩:=nF (T:=T) (t:=t) p (by rw[(j7 (dw c)).2.2];decide);have i:∀o,aP o t.s=o+1:=fun o=>by rw[sN (dw c)];rfl
  refine R.other b _ k (by rw[ud];simp only;rw[dw c];decide) (fun o=>by show o<=aP o t.s;rw[i];omega) ?_ (Uo rfl) rfl g u;show aP _ t.s=_;rw[i,R.hel.dep];simp only[List.length_append,List.length_cons,List.length_nil];omega
 rw[Ud c]at a ⊢;by_cases f:(t.s.toList == [36,125])=true
 ·rw[Uf f]at a ⊢;cases r:d.Yy.getLast? with
  | none=>rw[r]at a;cases a
  | some q =>
   simp only;obtain⟨k,-⟩:=nF (T:=T) (t:=t) p (by rw[(j7 (dw f)).2.2];decide);have i:∀o,aP o t.s=o-1:=fun o=>by rw[sN (dw f)];rfl
   have j:d.rbl≠[]:=by
    intro e;have:=R.hel.dep;rw[A,e]at this;have:d.Yy=[]:=UI (by simpa using this);rw[this]at r;cases r
   have x:d.rbl=d.rbl.dropLast++[d.rbl.getLast j]:=(WB j).symm;have y:d.rbl.getLast?=some (d.rbl.getLast j):=We j;unfold dc;rw[y];exact R.pop b _ k (by rw[ud];simp only;rw[dw f];decide) (fun o=>i o) x rfl rfl g u
 rw[Ud f]at a ⊢;by_cases l:(t.s.toList == [36,99])=true
 ·rw[Uf l]at a ⊢;by_cases w:0<d.Yy.length
  ·rw[Uf w]at a;cases a
  ·rw[Ud w];exact R.Yh b (fQ l (by decide)) rfl rfl g
 rw[Ud l]at a ⊢;by_cases m:(t.s.toList == [36,118])=true
 ·rw[Uf m];exact R.Yh b (fQ m (by decide)) rfl rfl g
 rw[Ud m]at a ⊢;by_cases n:(t.s.toList == [36,100])=true
 ·rw[Uf n];exact R.Yh b (fQ n (by decide)) rfl rfl g
 rw[Ud n]at a ⊢;split at a
 ·cases a
 ·next z =>
  rw[Ud z];unfold bU at *;cases v:dD t.s
  ·rw[v,Ud (by simp)]at a;split at a
   ·cases a
   ·next B =>
    split at a
    ·cases a
    ·next C =>
     rw[Ud (by simp),Ud B,Ud C];exact R.Yh b (rF v) rfl rfl (by show t.s=tS (T++[t]) (fD T);rw[p,oE])
  ·rw[v,Uf rfl]at a;cases a
theorem gw.key(R:gw T d)(c:i8 T (aa T) (aa T).length)(k:fD T+1=T.length)(j:d.Yw=6)(a:(aI d t.s).1=0):gw (T++[t]) (aI d t.s).2:=by
 have b:d.Yx=tS (T++[t]) (fD T):=by rw[R.lab,j,fY T [t] _ (by omega)];rfl
 unfold aI at *;split
 ·next h=>exact R.Yh c (fQ h (by decide)) rfl rfl b
 ·next e =>
  rw[Ud e]at a;split
  ·next h=>exact R.Yh c (fQ h (by decide)) rfl rfl b
  ·next f =>
   rw[Ud f]at a;split
   ·next h=>exact R.Yh c (fQ h (by decide)) rfl rfl b
   ·next g =>
    rw[Ud g]at a;split
    ·next h=>exact R.Yh c (fQ h (by decide)) rfl rfl b
    ·next i=>rw[Ud i]at a;cases a
theorem DM(h:fw o D):((o == [36,100])||(o == [36,102])||(o == [36,101])||(o == [36,97])||(o == [36,112]))=!((D==7)||(D==8)):=by
 (rcases h with ⟨rfl,rfl⟩ | ⟨rfl,rfl⟩ | ⟨rfl,rfl⟩ | ⟨rfl,rfl⟩ | ⟨rfl,rfl⟩ | ⟨rfl,rfl⟩ | ⟨rfl,rfl⟩) <;> decide
theorem NA(h:fw l.toList D):(aA l||aG l)=Qa D:=by
 have e:=j7 (k:=l) rfl;rw[e.1,e.2.1];generalize l.toList=a at h
 (rcases h with ⟨rfl,rfl⟩ | ⟨rfl,rfl⟩ | ⟨rfl,rfl⟩ | ⟨rfl,rfl⟩ | ⟨rfl,rfl⟩ | ⟨rfl,rfl⟩ | ⟨rfl,rfl⟩) <;> decide
theorem gw.body(R:gw T d)(r:i8 T (aa T) (aa T).length)(H:eu T (fD T)=(l,w))(B:fD T<w)(A:w<=T.length)(m:fw l.toList d.Yw)(F:eJ T w T.length=f)(D:d.Yc=f.takeWhile jE)(p:Pl)(b:(aZ d t.s p).1=0):gw (T++[t]) (aZ d t.s p).2:=by
 have y:d.Yx=if Qa d.Yw=true then tS (T++[t]) (fD T) else⟨#[]⟩:=by rw[R.lab,fY T [t] _ (by omega)]
 rw[pA m]at *;by_cases n:(t.s.toList == [36,46])=true
 ·rw[Uf n]at *;obtain⟨G,-⟩:=Ca n;obtain⟨v,-⟩:=oc T t;rw[Uf G,pi H B A m]at v;simp only at v;have i:bA (T++[t]) w=d.Yc:=by
   unfold bA;rw[U9 A,tM _ t (fun u I=>?_) n,D,<-F,mt];have:=vt T w (by omega) u I;unfold cd at this;simp only[Bool.or_eq_false_iff]at this;exact this.1.1
  have C:dS (T++[t]) w:=⟨T.length,A,by simp,by rw[oE];unfold od;rw[n];simp⟩;have c:=m.dep.1;have e:lM (aa T++[(⟨fD T,T.length+1,w,l⟩:Sm)]) (aa T).length=!((d.Yw==7)||(d.Yw==8)):=by rw[ud];exact DM m
  unfold mC at *;split at b
  ·cases b
  ·next E =>
   rw[Ud E];split at b
   ·cases b
   ·next k =>
    rw[Ud k];simp only;cases a:((d.Yw==7)||(d.Yw==8))
    ·rw[a]at e;simp only[Bool.or_eq_false_iff]at a;have j:(aW d p).Yt=d.Yt++[⟨d.Yw,d.Yx,d.Yc,d.Yn,p,0⟩]/\(aW d p).rbl=d.rbl:=by
      unfold aW nM oe;rw[a.1,a.2];simp only[Bool.false_eq_true,if_false];split <;> exact⟨rfl,rfl⟩
     refine R.Yu r _ v e (fun o=>c o) ⟨d.Yw,d.Yx,d.Yc,d.Yn,p,0⟩ rfl m ?_ i.symm C j.1 j.2 rfl rfl;show d.Yx=bD (T++[t]) ⟨fD T,T.length+1,w,l⟩;unfold bD;simp only;rw[NA m];exact y
    ·rw[a]at e;have j:(aW d p).Yt=d.Yt/\(aW d p).rbl=d.rbl:=by
      unfold aW eG;rw[UO]at a;split
      ·exact⟨rfl,rfl⟩
      ·next q =>
       rw[Uf (a.resolve_left q)];exact⟨rfl,rfl⟩
     refine R.other r _ v e (fun o=>by show o<=aP o l;rw[c];exact WK _) ?_ (Us j.2) j.1 rfl rfl;show aP _ l=_;rw[c,R.hel.dep];show _=((aW d p).rbl.length:Int)
     rw[j.2]
 ·rw[Ud n]at *;by_cases z:(t.s.toList == [36,61])=true/\(d.Yw==5)=true/\d.Yg=false
  ·rw[Uf z]at *;unfold cC at *;split at b
   ·cases b
   ·next g=>rw[Ud g];exact R.Yh r (fQ z.1 (by decide)) rfl rfl y
  ·rw[Ud z]at *;cases x:dD t.s
   ·rw[x,Ud (by simp)]at b;rw[Ud (by simp)];split at b
    ·next g=>rw[Uf g];exact R.Yh r (rF x) rfl rfl y
    ·next g =>
     rw[Ud g];split at b
     ·next k=>rw[Uf k];exact R.Yh r (rF x) rfl rfl y
     ·next k=>simp only at b;rw[b]at k;exact absurd rfl k
   ·rw[x,Uf rfl]at b;cases b
theorem gw.step(o:uN T d)(n:tC T (aa T) d)(q:∀j,j<T.length->aY T (aa T) j=0)(R:gw T d)(v:T.length<=100000)(p:Pl)(c:(aZ d t.s p).1=0):gw (T++[t]) (aZ d t.s p).2:=by
 obtain⟨k,-⟩:=Cg T v q;rcases o with ⟨g,a,b,f,m⟩ | ⟨g,a,b,f,m,y,x⟩ | ⟨A,l,B,a,i,w,u,r,f,b,z,m,C⟩
 ·have e:aZ d t.s p=ay d t.s:=by unfold aZ;rw[a];rfl
  rw[e]at c ⊢;exact R.first k (Dm n) g a c
 ·have e:aZ d t.s p=aI d t.s:=by unfold aZ;rw[a];rfl
  rw[e]at c ⊢;exact R.key k g a c
 ·exact R.body k a i w u r b p c
end
theorem cn(h:fw o D):(D==3)=(o == [36,101])/\(D==2)=(o == [36,102])/\(D==1)=(o == [36,100])/\ph D=((o == [36,97])||(o == [36,112])):=by
 (rcases h with ⟨rfl,rfl⟩ | ⟨rfl,rfl⟩ | ⟨rfl,rfl⟩ | ⟨rfl,rfl⟩ | ⟨rfl,rfl⟩ | ⟨rfl,rfl⟩ | ⟨rfl,rfl⟩) <;> decide
theorem uv:lO k=(List.range (lO k).length).map (av k):=by
 apply VZ;intro n;rw[UL];by_cases h:n<(lO k).length
 ·rw[V7 h,Ub h];show _=some (av k n);unfold av;rw[Uc,Ub h];rfl
 ·rw[UT (by omega),UT (by rw[VN];omega)];rfl
theorem vv(d:w=(lO b).length){p q:Nat->Bool}(f:∀j,j<b.length->p j=true->lM b j=true)(g:∀n,n<w->q n=p (av b n)):((List.range w).filter q).map (av b)=(List.range b.length).filter p:=by
 have a:(List.range b.length).filter p=(lO b).filter p:=by
  unfold lO;rw[XI];apply gn;intro j c;cases h:p j
  ·rfl
  ·rw[f j c h];rfl
 rw[a,uv b,<-d,List.filter_map];congr 1;apply gn;intro n e;exact g n e
theorem tZ(h:x<=w)(p:Nat->Bool):(List.range w).filter (fun j=>decide (j<x)&&p j)=(List.range x).filter p:=by
 have e:List.range w=List.range x++(List.range (w-x)).map (x + ·):=by
  have:=@List.range_add x (w-x);rwa [show x+(w-x)=w by omega]at this
 have b:(List.range x).filter (fun j=>decide (j<x)&&p j)=(List.range x).filter p:=gn (fun j a=>by rw[Vy a,VI]);have c:((List.range (w-x)).map (x + ·)).filter (fun j=>decide (j<x)&&p j)=[]:=by
  rw[Wx];intro j a;obtain⟨i,-,rfl⟩:=Vf.1 a;rw[Vx (by omega)];simp
 rw[e,Vi,b,c,UE]
section
variable {T:List Tk} {d:Db}
theorem gw.held(R:gw T d)(a:d.Yt[w]?=some i)(b:ph i.Yw=false)(c:x<d.Yt.length):fH d.Yt w x=(decide (av (aa T) w<av (aa T) x)&&aO (aa T) (av (aa T) w) (av (aa T) x)):=by
 have g:=(Uk.1 a).1;have f:=R.hel.len;unfold fH;rw[a];simp only;by_cases h:w<x
 ·rw[Vy h,Vy (gQ h (by omega)),R.hel.til w i a b x h (by omega)]
 ·have:¬av (aa T) w<av (aa T) x:=by
   by_cases e:w=x
   ·rw[e];omega
   ·have:=gQ (S:=aa T) (n:=x) (a:=w) (by omega) (by omega);omega
  rw[Vx h,Vx this];rfl
theorem gw.get(R:gw T d)(a:w<d.Yt.length):∃s,d.Yt[w]?=some s/\fw (aq (aa T) (av (aa T) w)).k.toList s.Yw/\s.Yx=bD T (aq (aa T) (av (aa T) w))/\s.Yc=bA T (aq (aa T) (av (aa T) w)).h:=by
 refine⟨d.Yt[w],Ub a,?_⟩;obtain⟨b,c,e,-⟩:=R.ct w _ (Ub a);exact⟨b,c,e⟩
theorem gw.symsAt(R:gw T d)(a:w<d.Yt.length):symsAt d.Yt w=bA T (aq (aa T) (av (aa T) w)).h:=by
 obtain⟨s,b,-,-,h⟩:=R.get a;unfold Go.Proofs.YtnbhnocdhbcbcaaGreat.symsAt;rw[b];exact h
theorem gw.syms(R:gw T d)(b:w<d.Yt.length):iu d.Yt w=uK T (aa T) (av (aa T) w):=by
 have l:=R.hel.len;have a:=R.hel.at_ b;have f:((List.range d.Yt.length).filter (BB d.Yt w)).map (av (aa T))=(List.range (av (aa T) w)).filter (zn (aa T) (av (aa T) w)):=by
  rw[<-tZ (Vb a)];refine vv l (fun j m h=>?_) (fun n c=>?_)
  ·unfold zn at h;simp only[Bool.and_eq_true]at h;unfold lM;rw[h.2.1];simp
  ·obtain⟨s,i,g,-,-⟩:=R.get c;unfold BB zn;rw[i];simp only;rw[(cn g).1];cases e:((aq (aa T) (av (aa T) n)).k.toList == [36,101])
   ·simp
   ·have a:ph s.Yw=false:=by
     rw[(cn g).2.2.2,cK e,cK e];decide
    rw[R.held i a b,VI,VI]
 unfold iu fC uK kQ;rw[R.symsAt b,<-f,List.flatMap_map];congr 1;apply dQ;intro n c;exact R.symsAt (Up.1 (UP.1 c).1)
def SD(T:List Tk)(S:List Sm):Prop:=∀j,j<S.length->((aq S j).k.toList == [36,102])=true->2<=(bA T (aq S j).h).length/\(bA T (aq S j).h).getD 1 ⟨#[]⟩=tS T ((aq S j).h+1)
theorem gw.hyps(R:gw T d)(F:SD T (aa T))(e:w<d.Yt.length):(aM d.Yt w).map (av (aa T))=a9 T (aa T) (av (aa T) w):=by
 have t:=R.hel.len;have b:=R.hel.at_ e;unfold aM eQ a9;rw[R.syms e,<-tZ (Vb b)];refine vv t (fun j x h=>?_) (fun n i=>?_)
 ·unfold ub at h;simp only[Bool.and_eq_true,Bool.or_eq_true]at h;unfold lM;rcases h.2.2 with h | h
  ·rw[h];simp
  ·rw[h.1];simp
 ·obtain⟨s,f,r,-,g⟩:=R.get i;have q:=R.hel.at_ i;obtain⟨v,l,y,m⟩:=cn r;unfold nW ub qP;rw[f];simp only;rw[l];cases a:((aq (aa T) (av (aa T) n)).k.toList == [36,102])
  ·rw[Ud (by simp),v];cases c:((aq (aa T) (av (aa T) n)).k.toList == [36,101])
   ·simp
   ·have b:ph s.Yw=false:=(by rw[m,cK c,cK c];decide);rw[R.held f b e];simp
  ·have b:ph s.Yw=false:=(by rw[m,cK a,cK a];decide);have c:((aq (aa T) (av (aa T) n)).k.toList == [36,101])=false:=(by rw[cK a];decide);obtain⟨o,p⟩:=F _ q a;have u:aL s=tS T ((aq (aa T) (av (aa T) n)).h+1):=by
    unfold aL;rw[Uf ⟨by rw[l];exact a,by rw[g];exact o⟩,g,p]
   rw[Uf rfl,R.held f b e,u,c,Vn,VI,Xb]
end
theorem JQ(L:List Tk):∀i,i<(lQ L).length->(lQ L)[i]?=L[i]?.map (·.s):=by
 induction L with
 | nil=>intro i a;cases a
 | cons t L b =>
  intro i a;unfold lQ at a ⊢;split
  ·next h=>rw[Uf h]at a;cases a
  ·next h =>
   rw[Ud h]at a;cases i with
   | zero=>rfl
   | succ i=>exact b i (by simpa using a)
theorem qF(T:List Tk)(h i:Nat)(a:i<(bA T h).length):(bA T h).getD i ⟨#[]⟩=tS T (h+i):=by
 unfold bA at *;have:=JQ (T.drop h) i a;unfold tS;rw[Uc,this,VQ,Uc];cases T[h+i]? <;> rfl
section
variable {T:List Tk} {t:Tk} {d d':Db}
def vr(s:St):Xs:=s.Yc.getD 1 ⟨#[]⟩
structure sg(d:Db):Prop where
 fl:∀(n:Nat) (s:St),d.Yt[n]?=some s->s.Yw=2->2<=s.Yc.length
 ds:∀(n m:Nat) (s u:St),d.Yt[n]?=some s->d.Yt[m]?=some u->s.Yw=2->u.Yw=2->n<m->(s.til=0∨m<s.til)->((vr s).toList==(vr u).toList)=false
 op:d.Yw=2->2<=d.Yc.length->aJ d.Yo (d.Yc.getD 1 ⟨#[]⟩)=false
theorem gw.Yo(R:gw T d)(E:tC T (aa T) d)(F:sg d)(b:d.Yt[w]?=some i)(c:i.Yw=2)(f:i.til=0):aJ d.Yo (vr i)=true:=by
 have n:=(Uk.1 b).1;obtain⟨m,-,e,-⟩:=R.ct w i b;have g:ph i.Yw=false:=by rw[c];rfl
 have a:=R.hel.now b g;rw[f]at a;have j:=R.hel.at_ n;have o:((aq (aa T) (av (aa T) w)).k.toList == [36,102])=true:=by rw[<-(cn m).2.1,c];rfl
 rw[E.typ.l,pg,UW];refine⟨av (aa T) w,UP.2 ⟨Up.2 j,a.symm⟩,?_⟩;unfold II;rw[Uf o,sQ];have p:=F.fl w i b c;unfold vr;rw[e,qF T _ 1 (by rw[<-e];omega)];simp
theorem sg.same(F:sg d)(b:d'.Yt=d.Yt)(e:d'.Yw=2->2<=d'.Yc.length->aJ d'.Yo (d'.Yc.getD 1 ⟨#[]⟩)=false):sg d' :=
 ⟨fun n s a=>by rw[b]at a;exact F.fl n s a,fun n m s u a c=>by rw[b]at a c;exact F.ds n m s u a c,e⟩
theorem sg.ended(F:sg d)(b:Nat)(o:d'.Yt=kL d.Yt b)(p:d'.Yw=0):sg d':=by
 have q:∀(n:Nat) (s:St),d'.Yt[n]?=some s->∃v,d.Yt[n]?=some v/\s.Yw=v.Yw/\s.Yc=v.Yc/\(s.til=v.til∨(v.til=0/\s.til=d.Yt.length)):=fun n s a=>by
  rw[o]at a;obtain⟨v,f,z⟩:=pb a;refine⟨v,f,?_⟩;rw[z];split
  ·unfold lR;split
   ·next c=>exact⟨rfl,rfl,Uo ⟨c.1,rfl⟩⟩
   ·exact⟨rfl,rfl,Us rfl⟩
  ·exact⟨rfl,rfl,Us rfl⟩
 refine⟨fun n s a j=>?_,fun n m s u a y j k l w=>?_,fun h=>by rw[p]at h;cases h⟩
 ·obtain⟨v,f,g,i,-⟩:=q n s a;rw[i];exact F.fl n v f (by rw[<-g];exact j)
 ·obtain⟨v,f,g,i,e⟩:=q n s a;obtain⟨x,A,r,t,-⟩:=q m u y;unfold vr;rw[i,t];refine F.ds n m v x f A (by rw[<-g];exact j) (by rw[<-r];exact k) l ?_;rcases e with e | ⟨e,-⟩
  ·rw[<-e];exact w
  ·exact Us e
theorem sg.more(R:gw T d)(E:tC T (aa T) d)(F:sg d)(u:St)(l:u.Yw=2->2<=u.Yc.length/\aJ d.Yo (vr u)=false)(o:d'.Yt=d.Yt++[u])(p:d'.Yw=0):sg d':=by
 have q:∀(n:Nat) (s:St),d'.Yt[n]?=some s->(n<d.Yt.length/\d.Yt[n]?=some s)∨(n=d.Yt.length/\s=u):=fun n s a=>by
  rw[o]at a;by_cases g:n<d.Yt.length
  ·rw[Uv g]at a;exact Us ⟨g,a⟩
  ·have:=(Uk.1 a).1;rw[Uh]at this;have:n<d.Yt.length+1:=this;rw[Ur (by omega),show n-d.Yt.length=0 by omega]at a;cases a
   exact Uo ⟨by omega,rfl⟩
 refine⟨fun n s a b=>?_,fun n m s x a A b c k v=>?_,fun h=>by rw[p]at h;cases h⟩
 ·rcases q n s a with ⟨-,h⟩ | ⟨-,rfl⟩
  ·exact F.fl n s h b
  ·exact(l b).1
 ·rcases q m x A with ⟨y,t⟩ | ⟨y,rfl⟩
  ·rcases q n s a with ⟨-,f⟩ | ⟨g,-⟩
   ·exact F.ds n m s x f t b c k v
   ·omega
  ·rcases q n s a with ⟨-,f⟩ | ⟨g,-⟩
   ·have w:=R.hel.le n s f;have r:s.til=0:=(by omega);have i:=R.Yo E F f b r;have j:=(l c).2;cases z:((vr s).toList==(vr x).toList)
    ·rfl
    ·have e:(vr s).toList=(vr x).toList:=(by simpa using z);unfold aJ at i j;rw[e]at i;rw[i]at j;cases j
   ·omega
theorem sg.step(y:uN T d)(x:tC T (aa T) d)(R:gw T d)(F:sg d)(p:Pl)(f:(aZ d t.s p).1=0):sg (aZ d t.s p).2:=by
 rcases y with ⟨E,i,j,m,w⟩ | ⟨E,i,j,m,w,I,H⟩ | ⟨K,v,B,i,G,O,D,N,m,j,J,w,M⟩
 ·have e:aZ d t.s p=ay d t.s:=by unfold aZ;rw[i];rfl
  rw[e]at f ⊢;unfold ay bU dc at *;have k:∀d':Db,d'.Yt=d.Yt->d'.Yw≠2->sg d':=fun d' l n=>F.same l (fun h=>absurd h n)
  repeat' split
  all_goals first
   | exact F
   | exact F.ended _ rfl i
   | exact k _ rfl (by rw[show _=_ from i];decide)
   | exact k _ rfl (by simp only;decide)
   | exact k _ rfl (by simp only;rw[i];decide)
   | exact k _ rfl (by show d.Yw≠2;rw[i];decide)
 ·have e:aZ d t.s p=aI d t.s:=by unfold aZ;rw[i];rfl
  rw[e]at f ⊢;have k:∀d':Db,d'.Yt=d.Yt->d'.Yc=d.Yc->sg d':=fun d' l n=>F.same l (fun _ h=>by rw[n,j]at h;simp at h);unfold aI
  repeat' split
  all_goals exact k _ rfl rfl
 ·rw[pA D]at f ⊢;by_cases u:(t.s.toList == [36,46])=true
  ·rw[Uf u]at f ⊢;unfold mC at *;split at f
   ·cases f
   ·next r =>
    rw[Ud r];split at f
    ·cases f
    ·next A =>
     rw[Ud A];simp only;cases c:((d.Yw==7)||(d.Yw==8))
     ·simp only[Bool.or_eq_false_iff]at c;have o:(aW d p).Yt=d.Yt++[⟨d.Yw,d.Yx,d.Yc,d.Yn,p,0⟩]:=by
       unfold aW nM oe;rw[c.1,c.2];simp only[Bool.false_eq_true,if_false];split <;> rfl
      refine sg.more R x F ⟨d.Yw,d.Yx,d.Yc,d.Yn,p,0⟩ (fun b=>?_) o rfl;replace b:d.Yw=2:=b;have a:2<=d.Yc.length:=by
       unfold mV at r;rw[Uf (Uo (by rw[b];rfl))]at r;omega
      exact⟨a,F.op b a⟩
     ·have o:(aW d p).Yt=d.Yt:=by
       unfold aW eG;rw[UO]at c;split
       ·rfl
       ·next q=>rw[Uf (c.resolve_left q)]
      exact F.same o (fun h=>by cases h)
  ·rw[Ud u]at f ⊢;split
   ·unfold cC;split <;> exact F.same rfl F.op
   ·split
    ·exact F
    ·split
     ·exact F.same rfl F.op
     ·split
      ·next C =>
       refine F.same rfl (fun b a=>?_);replace b:d.Yw=2:=b;replace a:2<=(d.Yc++[t.s]).length:=a;rw[Uh]at a;replace a:2<=d.Yc.length+1:=a;have g:bi d t.s=0:=by simpa using C
       unfold bi at g;rw[b,Ud (by decide),Ud (by decide),Ud (by decide),Ud (by omega),Uf (by rfl)]at g;unfold gi at g;split at g
       ·cases g
       ·next L =>
        split at g
        ·cases g
        ·split at g
         ·cases g
         ·next z =>
          show aJ d.Yo ((d.Yc++[t.s]).getD 1 ⟨#[]⟩)=false;have l:(d.Yc++[t.s]).getD 1 ⟨#[]⟩=t.s:=by
           rw[Uc,Ur (by omega),show 1-d.Yc.length=0 by omega];rfl
          rw[l];simpa using z
      ·exact F
theorem gw.flo(R:gw T d)(F:sg d):SD T (aa T):=by
 intro j i c;have a:j∈lO (aa T):=UP.2 ⟨Up.2 i,by unfold lM;rw[c];simp⟩;rw[uv]at a;obtain⟨n,b,rfl⟩:=Vf.1 a;have b:n<d.Yt.length:=by rw[R.hel.len];exact Up.1 b
 obtain⟨s,k,f,-,g⟩:=R.get b;have l:s.Yw=2:=by
  have:=(cn f).2.1;rw[c]at this;simpa using this
 have e:=F.fl n s k l;rw[g]at e;exact⟨e,qF T _ 1 (by omega)⟩
end
end Go.Proofs.YtnbhnocdhbcbcaaGreat
