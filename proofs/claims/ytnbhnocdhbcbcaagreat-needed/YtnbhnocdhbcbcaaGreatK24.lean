import Derived.Test.YtnbhnocdhbcbcaaGreatK07
import Derived.Test.YtnbhnocdhbcbcaaGreatK18
import Derived.Test.YtnbhnocdhbcbcaaGreatK23
namespace Go.Proofs.YtnbhnocdhbcbcaaGreat
open Go.RowKit Tryz
open Value IntKind Ending
set_option maxHeartbeats 0
variable{o:List UInt8}{D:Int}{l:Xs}{f:Xt}{w i:Nat}{y:Db}{b:List Sm}{I:Sm}{H:List St}{x:Xv}{k:St}(v:List Sm)(L:Sm)
theorem Dg(l:Xt):∀v x,aK (eW v l) x=(aK v x||aK l x):=by
 induction l with
 | nil=>intro v x;rw[ju,Vd];rfl
 | cons a l f =>
  intro v x;have e:eW v (a :: l)=eW (if aK v a=true then v else v++[a]) l:=rfl;have b:aK (a :: l) x=((a.toList==x.toList)||aK l x):=rfl;rw[e,f,b];by_cases h:aK v a=true
  ·rw[Tr h];cases c:(a.toList==x.toList)
   ·rw[UN]
   ·have d:aK v x=true:=by
     have:a.toList=x.toList:=(by simpa using c);unfold aK at h ⊢;rw[<-this];exact h
    rw[d];rfl
  ·rw[Tp h,xL,sO,V7]
section
variable {T:List Tk} {t:Tk} {d:Db}
theorem pj(b:fn o d.XU)(x:Xs)(p:Pl):aZ d x p =
  if(x.toList == [36,46])=true then mu d p
  else if(x.toList == [36,61])=true/\(d.XU==5)=true/\d.XD=false then cw d
  else if dD x=true then(8,d)
  else if d.XD=true then(0,{ d with XK:=d.XK++[(x,p)] })
  else if(bi d x==0)=true then(0,{ d with Xz:=d.Xz++[x] })
  else(bi d x,d):=by
 have a:(d.XU==0)=false/\(d.XU==6)=false:=by
  generalize d.XU=k at b
  (rcases b with ⟨rfl,rfl⟩ | ⟨rfl,rfl⟩ | ⟨rfl,rfl⟩ | ⟨rfl,rfl⟩ | ⟨rfl,rfl⟩ | ⟨rfl,rfl⟩ | ⟨rfl,rfl⟩) <;> exact⟨by decide,by decide⟩
 unfold aZ;rw[a.1,a.2,Tp (by simp),Tp (by simp)]
theorem Re(a:fn o D):(D==5)=(o == [36,112]):=by(rcases a with ⟨rfl,rfl⟩ | ⟨rfl,rfl⟩ | ⟨rfl,rfl⟩ | ⟨rfl,rfl⟩ | ⟨rfl,rfl⟩ | ⟨rfl,rfl⟩ | ⟨rfl,rfl⟩) <;> decide
theorem MA(I:tA T (aa T) d)(j:fn l.toList d.XU)(c:d.Xz=f)(m:(aA l||aH l)=false->d.XH=ki T (aa T))(x:Xs) :
  (if((l.toList == [36,99])||(l.toList == [36,118]))=true then j7 T (aa T) x (aa T).length (l.toList == [36,99]) f else im T (aa T) l x (aa T).length f)=bi d x:=by
 have b:=fun h=>Es I (m h) x;have a:=fun h=>Lw I (m h) x;have e:iG T (aa T) x (aa T).length=aK d.XI x:=by rw[I9,<-I.act.l]
 have g:eM T (aa T) x (aa T).length=aK d.XB x:=by rw[uV,<-I.con]
 have i:decide (0<=gK T (aa T) x (aa T).length)=aK d.XL x:=by rw[JP,<-I.typ.l]
 obtain⟨n,o,-⟩:=jW (k:=l) rfl;unfold j7 im bi jC jD gi f8;rw[c];have p:(gK T (aa T) x (aa T).length<0) ↔ aK d.XL x=false:=by
  rw[<-i];simp
 have q:(0<=gK T (aa T) x (aa T).length) ↔ aK d.XL x=true:=by
  rw[<-i];simp
 generalize hkl:l.toList=r at *;generalize d.XU=k at j ⊢;simp only[e,g,p,q];rw[n,o]at b a;rcases j with ⟨rfl,rfl⟩ | ⟨rfl,rfl⟩ | ⟨rfl,rfl⟩ | ⟨rfl,rfl⟩ | ⟨rfl,rfl⟩ | ⟨rfl,rfl⟩ | ⟨rfl,rfl⟩
 ·have b:=b (by decide);rw[b];simp only[show(([36,99]:List UInt8) == [36,99])=true from by decide,show((7:Int)==7)=true from rfl,Bool.true_or,if_true,Bool.true_and,Bool.not_true,Bool.false_and,Bool.false_eq_true,if_false];cases aK f x <;> cases eD d x <;> simp
 ·have a:=a (by decide);rw[e,g]at a;rw[a];simp only[show(([36,118]:List UInt8) == [36,99])=false from by decide,show(([36,118]:List UInt8) == [36,118])=true from by decide,show((8:Int)==7)=false from rfl,show((8:Int)==8)=true from rfl,Bool.or_true,if_true,Bool.false_and,Bool.not_false,Bool.true_and,Bool.false_eq_true,if_false];cases aK f x <;> cases fe d x <;> simp
 ·simp only[show(([36,100]:List UInt8) == [36,99])=false from by decide,show(([36,100]:List UInt8) == [36,118])=false from by decide,show(([36,100]:List UInt8) == [36,100])=true from by decide,show((1:Int)==7)=false from rfl,show((1:Int)==8)=false from rfl,show((1:Int)==1)=true from rfl,Bool.or_false,if_true,Bool.false_eq_true,if_false]
 ·simp only[show(([36,102]:List UInt8) == [36,99])=false from by decide,show(([36,102]:List UInt8) == [36,118])=false from by decide,show(([36,102]:List UInt8) == [36,100])=false from by decide,show(([36,102]:List UInt8) == [36,102])=true from by decide,show((2:Int)==7)=false from rfl,show((2:Int)==8)=false from rfl,show((2:Int)==1)=false from rfl,show((2:Int)==2)=true from rfl,Bool.or_false,if_true,Bool.false_eq_true,if_false,beq_iff_eq]
 ·simp only[show(([36,101]:List UInt8) == [36,99])=false from by decide,show(([36,101]:List UInt8) == [36,118])=false from by decide,show(([36,101]:List UInt8) == [36,100])=false from by decide,show(([36,101]:List UInt8) == [36,102])=false from by decide,show((3:Int)==7)=false from rfl,show((3:Int)==8)=false from rfl,show((3:Int)==1)=false from rfl,show((3:Int)==2)=false from rfl,Bool.or_false,Bool.false_eq_true,if_false,beq_iff_eq]
 ·simp only[show(([36,97]:List UInt8) == [36,99])=false from by decide,show(([36,97]:List UInt8) == [36,118])=false from by decide,show(([36,97]:List UInt8) == [36,100])=false from by decide,show(([36,97]:List UInt8) == [36,102])=false from by decide,show((4:Int)==7)=false from rfl,show((4:Int)==8)=false from rfl,show((4:Int)==1)=false from rfl,show((4:Int)==2)=false from rfl,Bool.or_false,Bool.false_eq_true,if_false,beq_iff_eq]
 ·simp only[show(([36,112]:List UInt8) == [36,99])=false from by decide,show(([36,112]:List UInt8) == [36,118])=false from by decide,show(([36,112]:List UInt8) == [36,100])=false from by decide,show(([36,112]:List UInt8) == [36,102])=false from by decide,show((5:Int)==7)=false from rfl,show((5:Int)==8)=false from rfl,show((5:Int)==1)=false from rfl,show((5:Int)==2)=false from rfl,Bool.or_false,Bool.false_eq_true,if_false,beq_iff_eq]
theorem QY(j:fn l.toList d.XU)(b:d.XD=aK f ⟨#[36,61]⟩)(e:d.Xz=f.takeWhile jz)(c:d.XD=true->d.XU=5/\d.Xz≠[])(p:Pl):ja l f=(mu d p).1/\((mu d p).1=0->(mu d p).2={ aX d p with XU:=0,XV:=⟨#[]⟩,Xz:=[],XD:=false,XK:=[] }/\(d.XU=2->1<d.Xz.length)):=by
 have n:d.XD=false->d.Xz=f:=fun h=>by rw[e];exact tZ f (by rw[<-b];exact h)
 have o:d.XD=true->0<f.length/\0<d.Xz.length:=fun h=>by
  refine⟨?_,Wi.2 (c h).2⟩;rw[b]at h;cases f with
  | nil=>cases h
  | cons a f=>simp
 unfold ja mu mQ;rw[<-b];generalize hkl:l.toList=r at *;generalize hkk:d.XU=k at *;clear e b;cases i:d.XD
 ·rw[n i];generalize f.length=m
  (rcases j with ⟨rfl,rfl⟩ | ⟨rfl,rfl⟩ | ⟨rfl,rfl⟩ | ⟨rfl,rfl⟩ | ⟨rfl,rfl⟩ | ⟨rfl,rfl⟩ | ⟨rfl,rfl⟩) <;> simp <;> (repeat' split) <;> simp_all <;> omega
 ·obtain⟨t,u⟩:=o i;have g:=(c i).1;subst g;generalize f.length=m at *;generalize d.Xz.length=s at *;rcases j with ⟨-,h⟩ | ⟨-,h⟩ | ⟨-,h⟩ | ⟨-,h⟩ | ⟨-,h⟩ | ⟨-,h⟩ | ⟨rfl,-⟩
  all_goals first | (exfalso;revert h;decide) | skip
  simp
  (repeat' split) <;> simp_all <;> omega
end
section
variable {T:List Tk} {t:Tk} {d:Db}
theorem By:∀{x:Xs},(x.toList == [36,46])=true->ce x=true/\ij x ⟨#[36]⟩=true:=fun {x} h=>by
 rw[(jW (du h)).2.2,Gy (du h)];decide +kernel
theorem Gw(Z:iZ T (aa T) (aa T).length)(fo:mU T (aa T) (aa T).length)(I:tA T (aa T) d)(hk:eu T (fB T)=(l,w))(O:fB T<w)(X:w<=T.length)(K:fn l.toList d.XU)(J:eG T w T.length=f)(U:d.Xz=f.takeWhile jz)(R:d.XD=true->d.XU=5/\d.Xz≠[])(hl:d.XH=ki T (aa T)++(if(aA l||aH l)=true then [tS T (fB T)] else []))(h0:(aA l||aH l)=true->((tS T (fB T)).toList == [])=false)(Y:(t.s.toList == [36,46])=true)(p:Pl)(G:d.XU=2->1<d.Xz.length)(M:d.XD=false->d.Xz=f)(v:y={ aX d p with XU:=0,XV:=⟨#[]⟩,Xz:=[],XD:=false,XK:=[] }) :
  tA (T++[t]) (aa (T++[t])) y/\uL (T++[t]) y:=by
 obtain⟨W,-⟩:=By Y;obtain⟨C,V⟩:=nV T t;rw[Tr W,oX hk O X K]at C;rw[Tr W]at V;simp only at C;have r:bB (T++[t]) w=d.Xz:=by
  unfold bB;rw[UC X,tJ _ t (fun u hu=>?_) Y,U,<-J,mb];have:=vp T w (by omega) u hu;unfold ce at this;simp only[Bool.or_eq_false_iff]at this;exact this.1.1
 have D:=K.dep.1;obtain⟨s,H⟩:∃s:Sm,s=⟨fB T,T.length+1,w,l⟩:=⟨_,rfl⟩
 rw[<-H]at C;have q:s.k=l:=by rw[H]
 have B:s.h=w:=by rw[H]
 have S:s.a=fB T:=by rw[H]
 have v1:EC (T++[t]) (aa T++[s]) (aa T).length=if(l.toList == [36,118])=true then d.Xz else []:=by
  unfold EC;rw[lx,q,B,r]
 have v2:JB (T++[t]) (aa T++[s]) (aa T).length=if(l.toList == [36,99])=true then d.Xz else []:=by
  unfold JB;rw[lx,q,B,r]
 have v3:Ih (T++[t]) (aa T++[s]) (aa T).length=if(l.toList == [36,102])=true then [tS (T++[t]) (w+1)] else []:=by
  unfold Ih;rw[lx,q,B]
 have E:ki (T++[t]) (aa T++[s])=d.XH:=by
  rw[vj s Z,hl];congr 1;cases L:(aA l||aH l)
  ·rw[Tp (by simp)];exact Fw (by rw[q];exact L)
  ·have e:tS (T++[t]) s.a=tS T (fB T):=(by rw[S,fY T [t] _ (by omega)]);rw[Tr rfl,<-e];exact Pt (by rw[q];exact L) (by rw[e];exact h0 L)
 have Q:fB (T++[t])=(T++[t]).length:=by rw[V];simp
 have dv:y.XB=(aX d p).XB/\y.XC=(aX d p).XC/\y.XI=(aX d p).XI/\y.XL=(aX d p).XL/\y.XW=(aX d p).XW/\y.XH=(aX d p).XH:=by
  rw[v];exact⟨rfl,rfl,rfl,rfl,rfl,rfl⟩
 obtain⟨b,c,g,i,j,m⟩:=dv;rw[C];have A:y.XB=d.XB++(if(l.toList == [36,99])=true then d.Xz else [])->(∀x,aK y.XC x=(aK d.XC x||aK (if(l.toList == [36,118])=true then d.Xz else []) x))->y.XI=d.XI++(if(l.toList == [36,118])=true then d.Xz else [])->y.XL=d.XL++(if(l.toList == [36,102])=true then [tS (T++[t]) (w+1)] else [])->y.XW=d.XW->y.XH=d.XH->tA (T++[t]) (aa T++[s]) y/\uL (T++[t]) y:=fun g1 g2 g3 g4 g5 g6 =>
  ⟨I.close Z fo s (fun o=>by rw[q];exact D o) (by rw[v2];exact g1) (fun x=>by rw[v1];exact g2 x) (by rw[v1];exact g3) (by rw[v3];exact g4) g5,
   uL.none Q (by rw[v]) (by rw[v]) (by rw[v]) (by rw[C,E];exact g6)⟩
 -- the seven keys
 have n:∀k:Int,d.XU=k->(k==7)=false->(k==8)=false->(k==2)=false->aX d p=nG d p:=fun k N e7 e8 e2=>by
  unfold aX nX;rw[N,e7,e8,e2];simp
 generalize hkl:l.toList=ac at *;generalize hkk:d.XU=k at *;rcases K with ⟨rfl,rfl⟩ | ⟨rfl,rfl⟩ | ⟨rfl,rfl⟩ | ⟨rfl,rfl⟩ | ⟨rfl,rfl⟩ | ⟨rfl,rfl⟩ | ⟨rfl,rfl⟩
 ·have e:aX d p={ d with XB:=d.XB++d.Xz }:=by unfold aX;rw[hkk];rfl
  rw[e]at b c g i j m;exact A (by rw[b];rfl) (fun x=>by rw[c];simp[ju]) (by rw[g];simp) (by rw[i];simp) j m
 ·have e:aX d p=eF d d.Xz.length:=by unfold aX;rw[hkk];rfl
  rw[e]at b c g i j m;unfold eF at b c g i j m;exact A (by rw[b];simp) (fun x=>by rw[c];simp only[List.take_length];rw[Dg];rfl) (by rw[g];rfl) (by rw[i];simp) j m
 ·have e:=n 1 rfl rfl rfl rfl;rw[e]at b c g i j m;unfold nG at b c g i j m;exact A (by rw[b];simp) (fun x=>by rw[c];simp[ju]) (by rw[g];simp) (by rw[i];simp) j m
 ·have G:=G rfl;have P:d.XD=false:=by
   cases h:d.XD
   ·rfl
   ·exact absurd (R h).1 (by decide)
  have F:=M P;have e:aX d p=nG { d with XL:=d.XL++[d.Xz.getD 1 ⟨#[]⟩] } p:=by
   unfold aX nX;rw[hkk,Tp (by decide),Tp (by decide),Tr ⟨rfl,G⟩]
  have hg:d.Xz.getD 1 ⟨#[]⟩=tS (T++[t]) (w+1):=by
   have z:w+1<T.length:=by
    rw[F,<-J,mb,TT,Ux]at G;omega
   rw[F,<-J,mb,fY T [t] _ z];unfold tS;rw[To,To,Ua,Vz,Tn z];rfl
  rw[e]at b c g i j m;unfold nG at b c g i j m;exact A (by rw[b];simp) (fun x=>by rw[c];simp[ju]) (by rw[g];simp) (by rw[i,hg];rfl) j m
 ·have e:=n 3 rfl rfl rfl rfl;rw[e]at b c g i j m;unfold nG at b c g i j m;exact A (by rw[b];simp) (fun x=>by rw[c];simp[ju]) (by rw[g];simp) (by rw[i];simp) j m
 ·have e:=n 4 rfl rfl rfl rfl;rw[e]at b c g i j m;unfold nG at b c g i j m;exact A (by rw[b];simp) (fun x=>by rw[c];simp[ju]) (by rw[g];simp) (by rw[i];simp) j m
 ·have e:=n 5 rfl rfl rfl rfl;rw[e]at b c g i j m;unfold nG at b c g i j m;exact A (by rw[b];simp) (fun x=>by rw[c];simp[ju]) (by rw[g];simp) (by rw[i];simp) j m
theorem Ca(n:iZ T (aa T) (aa T).length)(z:mU T (aa T) (aa T).length)(I:tA T (aa T) d)(D:eu T (fB T)=(l,w))(b:fB T<w)(m:w<=T.length)(k:fn l.toList d.XU)(B:eG T w T.length=f)(E:d.XH=ki T (aa T)++(if(aA l||aH l)=true then [tS T (fB T)] else []))(A:(aA l||aH l)=true->((tS T (fB T)).toList == [])=false)(C:ce t.s=false)(o:y.XB=d.XB)(p:y.XC=d.XC)(q:y.XI=d.XI)(r:y.XL=d.XL)(u:y.XW=d.XW)(v:y.XH=d.XH)(x:y.XU=d.XU)(e:y.XD=aK (f++[t.s]) ⟨#[36,61]⟩)(i:y.Xz=(f++[t.s]).takeWhile jz)(g:y.XD=true->y.XU=5/\y.Xz≠[]):tA (T++[t]) (aa (T++[t])) y/\uL (T++[t]) y:=by
 obtain⟨j,c⟩:=lX (T:=T) (t:=t) C;have a:tS (T++[t]) (fB (T++[t]))=tS T (fB T):=by rw[c,fY T [t] _ (by omega)]
 refine⟨by rw[j];exact I.same n z o p q r u,uL.body l w (f++[t.s]) (by rw[c];exact oX D b m k) (by rw[c];exact b) (by simp;omega) (by rw[x];exact k) (by rw[Ms t w m,B]) e i g ?_ (fun h=>by rw[a];exact A h)⟩;rw[j,rB n,a,v];exact E
theorem Lm(E:iZ T (aa T) (aa T).length)(u:mU T (aa T) (aa T).length)(I:tA T (aa T) d)(C:eu T (fB T)=(l,w))(b:fB T<w)(B:w<=T.length)(j:fn l.toList d.XU)(A:eG T w T.length=f)(a:d.XD=aK f ⟨#[36,61]⟩)(i:d.Xz=f.takeWhile jz)(m:d.XD=true->d.XU=5/\d.Xz≠[])(r:d.XH=ki T (aa T)++(if(aA l||aH l)=true then [tS T (fB T)] else []))(x:(aA l||aH l)=true->((tS T (fB T)).toList == [])=false)(p:Pl) :
  mI T (aa T) l t.s (aa T).length f=(aZ d t.s p).1/\((aZ d t.s p).1=0->tA (T++[t]) (aa (T++[t])) (aZ d t.s p).2/\uL (T++[t]) (aZ d t.s p).2):=by
 have k:d.XD=false->d.Xz=f:=fun h=>by rw[i];exact tZ f (by rw[<-a];exact h)
 have o:(⟨#[36,61]⟩:Xs).toList=[36,61]:=by decide +kernel
 rw[pj j];unfold mI;cases P:(t.s.toList == [36,46])
 ·simp only[Bool.false_eq_true,if_false];rw[<-a,<-Re j];cases y:((t.s.toList == [36,61])&&((d.XU==5) && !d.XD))
  ·have G:¬((t.s.toList == [36,61])=true/\(d.XU==5)=true/\d.XD=false):=fun h=>by
    rw[h.1,h.2.1,h.2.2]at y;cases y
   simp only[Bool.false_eq_true,if_false];rw[Tp G,iQ];cases N:dD t.s
   ·have c:ce t.s=false:=by
     cases K:ce t.s
     ·rfl
     ·have:=(lz K).1;rw[iQ,N]at this;cases this
    have L:(t.s.toList == [36,61])=false:=by
     cases K:(t.s.toList == [36,61])
     ·rfl
     ·have e:=Gy (du K);rw[iQ,N]at e;exact absurd e (by decide +kernel)
    simp only[Bool.false_eq_true,if_false];cases z:d.XD
    ·have D:=k z;simp only[Bool.false_eq_true,if_false];have Q:=MA I j D (fun h=>by rw[r,Tp (by rw[h];simp),TY]) t.s;rw[Q];have g:aK (f++[t.s]) ⟨#[36,61]⟩=false:=by
      rw[xL,sO,<-a,z,o,L];rfl
     cases H:(bi d t.s==0)
     ·simp only[Bool.false_eq_true,if_false];exact⟨trivial,fun h=>by rw[h]at H;cases H⟩
     ·rw[Tr rfl];refine⟨by simpa using H,fun _=>Ca E u I C b B j A r x c rfl rfl rfl rfl rfl rfl rfl g.symm ?_ (fun h=>Bool.noConfusion h)⟩;rw[tZ _ g];simp only;rw[D]
    ·have O:aK f ⟨#[36,61]⟩=true:=(by rw[<-a];exact z);rw[Tr rfl,Tr rfl];exact⟨rfl,fun _=>Ca E u I C b B j A r x c rfl rfl rfl rfl rfl rfl rfl (by rw[xL,O,Vo]) (by rw[Ok _ _ O];exact i) (fun _=>m z)⟩
   ·rw[Tr rfl,Tr rfl];exact⟨rfl,fun h=>by cases h⟩
  ·simp only[Bool.and_eq_true,Bool.not_eq_true']at y;obtain⟨v,M,F⟩:=y;have D:=k F;rw[Tr rfl,Tr (show(t.s.toList == [36,61])=true/\(d.XU==5)=true/\d.XD=false from⟨v,M,F⟩)];unfold cw;rw[D];by_cases n:f.length=0
   ·rw[Tr n,Tr n];exact⟨rfl,fun h=>by cases h⟩
   ·rw[Tp n,Tp n];have c:ce t.s=false:=(by rw[(jW (du v)).2.2];decide);have J:aK f ⟨#[36,61]⟩=false:=(by rw[<-a];exact F);have g:aK (f++[t.s]) ⟨#[36,61]⟩=true:=(by rw[xL,sO,o,v,Ww]);refine⟨rfl,fun _=>Ca E u I C b B j A r x c rfl rfl rfl rfl rfl rfl rfl g.symm ?_ (fun _=>⟨by simpa using M,?_⟩)⟩
    ·have q:=M0 f J;rw[List.takeWhile_append_of_pos q,Vt (by unfold jz;rw[v];simp),TY]
    ·simp only;intro e;rw[e]at n;exact n rfl
 ·rw[Tr rfl,Tr rfl];obtain⟨R,S⟩:=QY j a i m p;refine⟨R,fun h=>?_⟩;obtain⟨U,V⟩:=S h;exact Gw E u I C b B j A i m r x P p V k U
theorem qB(a:(l.toList == [36,123])=false)(b:(l.toList == [36,125])=false)(o:Int):aR o l=o:=by
 unfold aR;rw[a,b];rfl
theorem Bf(h:dD l=false)(o:Int):aR o l=o:=by
 have a:ce l=false:=by
  cases b:ce l
  ·rfl
  ·have:=(lz b).1;rw[iQ,h]at this;cases this
 unfold ce at a;simp only[Bool.or_eq_false_iff]at a;exact qB a.1.2 a.2 o
theorem xq(d:Db)(p:Pl):(aX d p).XW=d.XW:=by
 unfold aX eF nG nX;split
 ·rfl
 ·split
  ·rfl
  ·split <;> rfl
theorem Ep(o:uL T d)(x:Xs)(p:Pl)(h:(aZ d x p).1=0):((aZ d x p).2.XW.length:Int)=aR (d.XW.length:Int) x:=by
 rcases o with ⟨u,i,g,f,n⟩ | ⟨u,i,g,f,n,y,w⟩ | ⟨C,m,B,i,v,a,t,F,f,g,z,n,E⟩
 ·have e:aZ d x p=ay d x:=by unfold aZ;rw[i];rfl
  rw[e]at h ⊢;cases b:(x.toList == [36,123])
  ·cases c:(x.toList == [36,125])
   ·rw[qB b c];unfold ay bV;rw[b,c,Tp (by simp),Tp (by simp)]
    repeat' split
    all_goals rfl
   ·have j:ay d x=(match d.XW.getLast? with | none=>(9,d) | some p=>(0,cU d p)):=by
     unfold ay;rw[b,c,Tp (by simp),Tr rfl];rfl
    rw[j]at h ⊢;cases k:d.XW.getLast? with
    | none=>rw[k]at h;cases h
    | some q =>
     have r:0<d.XW.length:=by
      rw[Wi];intro e;rw[e]at k;cases k
     have s:(cU d q).XW=d.XW.dropLast:=by
      unfold cU dx;split <;> rfl
     simp only;rw[s,sK (du c),Vk]
     show((d.XW.length-1:Nat):Int)=(d.XW.length:Int)-1
     omega
  ·have j:ay d x=(0,{ d with XW:=d.XW++[(d.XI.length,d.XL.length)],rbl:=d.rbl++[d.XQ.length] }):=by
    unfold ay;rw[b,Tr rfl]
   rw[j,sK (du b)];simp only[List.length_append,List.length_cons,List.length_nil]
   show((d.XW.length+(0+1):Nat):Int)=(d.XW.length:Int)+1
   omega
 ·have e:aZ d x p=aJ d x:=by unfold aZ;rw[i];rfl
  rw[e]at h ⊢;have A:aR (d.XW.length:Int) x=(d.XW.length:Int):=by
   refine qB ?_ ?_ _
   ·cases a:(x.toList == [36,123])
    ·rfl
    ·exfalso
     unfold aJ at h;rw[cI a,cI a,cI a,cI a,Tp (by decide),Tp (by decide),Tp (by decide),Tp (by decide)]at h;cases h
   ·cases a:(x.toList == [36,125])
    ·rfl
    ·exfalso
     unfold aJ at h;rw[cI a,cI a,cI a,cI a,Tp (by decide),Tp (by decide),Tp (by decide),Tp (by decide)]at h;cases h
  rw[A];unfold aJ
  repeat' split
  all_goals rfl
 ·rw[pj t]at h ⊢;cases b:(x.toList == [36,46])
  ·rw[b,Tp (by simp)]at h;rw[Tp (by simp)];by_cases c:(x.toList == [36,61])=true/\(d.XU==5)=true/\d.XD=false
   ·rw[Tr c,qB (by rw[cI c.1];decide) (by rw[cI c.1];decide)];unfold cw;split <;> rfl
   ·rw[Tp c]at h ⊢;cases l:dD x
    ·rw[Bf l,Tp (by simp)]
     repeat' split
     all_goals rfl
    ·rw[l,Tr rfl]at h;cases h
  ·rw[Tr rfl,qB (by rw[cI b];decide) (by rw[cI b];decide)];unfold mu;split
   ·rfl
   ·split
    ·rfl
    ·simp only;rw[xq]
end
def kF(S:List Sm)(j:Nat):Bool:=((aq S j).k.toList == [36,100])||((aq S j).k.toList == [36,102])||((aq S j).k.toList == [36,101])||((aq S j).k.toList == [36,97])||((aq S j).k.toList == [36,112])
def lF(S:List Sm):Xv:=(List.range S.length).filter (kF S)
def aw(S:List Sm)(n:Nat):Nat:=(lF S).getD n S.length
theorem Nf(j:Nat)(a:j<v.length):kF (v++[L]) j=kF v j:=by
 unfold kF;rw[jJ v [L] j a]
theorem nC:lF (v++[L])=lF v++(if kF (v++[L]) v.length=true then [v.length] else []):=by
 unfold lF;rw[cO,UU,UI,gn (fun j a=>Nf v L j a)];congr 1;cases h:kF (v++[L]) v.length <;> simp[h]
theorem Qc(h:(lF b)[w]?=some i):i<b.length:=by
 have:=U0 h;exact TG.1 (Uk.1 this).1
theorem Qb(h:w<(lF b).length):aw b w<b.length:=by
 have e:(lF b)[w]?=some (aw b w):=by unfold aw;rw[To,Tn h];rfl
 exact Qc e
theorem NL:aw v (lF v).length=v.length:=by
 unfold aw;rw[To,Un (Tq _)];rfl
theorem NK(h:w<(lF b).length):aw (b++[I]) w=aw b w:=by
 unfold aw;rw[nC,To,To,TQ h,Tn h];rfl
theorem ge{S:List Sm}{n a:Nat}(h:n<a)(b:a<(lF S).length):aw S n<aw S a:=by
 have c:(lF S).Pairwise (· < ·):=WK _ V3;have:=VO.1 c n a (by omega) b h;unfold aw;rw[To,To,Tn b,Tn (by omega)];exact this
theorem tF(a:w<=i)(c:i<=b.length):aO (b++[I]) w i=aO b w i:=by
 unfold aO;rw[UC (by omega),UW (by rw[Ux];omega)]
theorem rs(a:w<=b.length):bt (b++[I]) w=bt b w:=by
 unfold bt;rw[UW a]
theorem Hh(a:w<=b.length):aO (b++[I]) w (b.length+1)=(aO b w b.length&&decide (bt b w<=aR (bt b b.length) I.k)):=by
 rw[oO (b++[I]) w b.length a (by rw[cO];omega),tF a (Tq _),rs a,iO]
theorem AQ(a:w<=b.length)(h:aO b w b.length=true):bt b w<=bt b b.length:=AS b w b.length a (Tq _) h b.length a (Tq _)
theorem oN(a:w<=b.length)(c:∀o,o<=aR o I.k):aO (b++[I]) w (b.length+1)=aO b w b.length:=by
 rw[Hh a];cases h:aO b w b.length
 ·rfl
 ·have:=AQ a h;have:=c (bt b b.length);simp;omega
structure ou(S:List Sm)(l:List St)(rb:Xv):Prop where
 len:l.length=(lF S).length
 til:∀(n:Nat) (s:St),l[n]?=some s->oB s.XU=false->∀a,n<a->a<=l.length->(s.til==0||decide (a<s.til))=aO S (aw S n) (aw S a)
 le:∀(n:Nat) (s:St),l[n]?=some s->s.til<=l.length
 dep:bt S S.length=(rb.length:Int)
 rbl:∀i,i<rb.length->rb.getD i 0<=l.length/\∀n,n<l.length->aO S (aw S n) S.length=true->(rb.getD i 0<=n ↔ (i:Int)<bt S (aw S n))
theorem ou.nil:ou [] [] []:=⟨rfl,(fun n s h=>by cases h),(fun n s h=>by cases h),rfl,fun i h=>by cases h⟩
theorem ou.at_(h:ou b H x)(a:w<H.length):aw b w<b.length:=Qb (by rw[<-h.len];exact a)
theorem ou.ix(h:ou b H x)(s:Sm)(a:w<H.length):aw (b++[s]) w=aw b w:=NK (by rw[<-h.len];exact a)
theorem ou.ixEnd(h:ou b H x):aw b H.length=b.length:=by rw[h.len];exact NL b
theorem ou.now(h:ou b H x)(a:H[w]?=some k)(c:oB k.XU=false):(k.til==0)=aO b (aw b w) b.length:=by
 have d:=(TA.1 a).1;have:=h.til w k a c H.length d (Tq _);rw[h.ixEnd]at this;rw[<-this];have:=h.le w k a;rw[UY (by omega),Vd]
theorem ou.other(h:ou b H x)(s:Sm)(G:kF (b++[s]) b.length=false)(u:∀o,o<=aR o s.k)(f:Xv)(F:aR (bt b b.length) s.k=f.length)(E:f=x∨f=x++[H.length]):ou (b++[s]) H f:=by
 have e:lF (b++[s])=lF b:=by rw[nC,Tp (by rw[G];simp),TY]
 have A:aw (b++[s]) H.length=b.length+1:=by
  unfold aw;rw[e,To,Un (by rw[h.len];exact Tq _)];exact cO b s
 refine⟨by rw[e];exact h.len,fun n t v y a g l=>?_,h.le,by rw[cO,iO];exact F,fun i j=>?_⟩
 ·have d:=(TA.1 v).1;have m:=h.at_ d;rw[h.ix s d];by_cases B:a=H.length
  ·subst B;rw[A,oN (by omega) u,h.til n t v y _ g l,h.ixEnd]
  ·have c:a<H.length:=(by omega);have:=h.at_ c;have r:aw b n<=aw b a:=UB (ge g (by rw[<-h.len];exact c));rw[h.ix s c,tF r (by omega)];exact h.til n t v y a g l
 ·rw[cO];have p:∀i,i<x.length->x.getD i 0<=H.length/\∀n,n<H.length->aO (b++[s]) (aw (b++[s]) n) (b.length+1)=true->(x.getD i 0<=n ↔ (i:Int)<bt (b++[s]) (aw (b++[s]) n)):=fun i j=>by
   obtain⟨C,D⟩:=h.rbl i j;refine⟨C,fun n d c=>?_⟩;have m:=h.at_ d;rw[h.ix s d]at c ⊢;rw[oN (by omega) u]at c;rw[rs (by omega)];exact D n d c
  rcases E with rfl | rfl
  ·exact p i j
  ·rw[Tv]at j;replace j:i<x.length+1:=j;by_cases w:i<x.length
   ·have q:(x++[H.length]).getD i 0=x.getD i 0:=(by rw[To,To,TQ w]);rw[q];exact p i w
   ·have q:i=x.length:=(by omega);subst q;have z:(x++[H.length]).getD x.length 0=H.length:=by rw[To,TJ (Tq _),Uz];rfl
    rw[z];refine⟨Tq _,fun n d c=>?_⟩;have m:=h.at_ d;rw[h.ix s d]at c ⊢;rw[oN (by omega) u]at c;rw[rs (by omega)];have:=AQ (by omega) c;have:=h.dep;omega
theorem ou.XR(h:ou b H x)(s:Sm)(K:kF (b++[s]) b.length=true)(B:∀o,aR o s.k=o)(t:St)(L:t.til=0):ou (b++[s]) (H++[t]) x:=by
 have d:∀o,o<=aR o s.k:=fun o=>by rw[B o];exact Wb _
 have e:lF (b++[s])=lF b++[b.length]:=by rw[nC,Tr K]
 have m:(H++[t]).length=H.length+1:=by rw[Tv];rfl
 have q:aw (b++[s]) H.length=b.length:=by
  unfold aw;rw[e,h.len,To,TJ (Tq _),Uz];rfl
 have A:aw (b++[s]) (H.length+1)=b.length+1:=by
  unfold aw;rw[e,To,Un (by rw[Tv,h.len];exact Tq _)];exact cO b s
 have f:aO (b++[s]) b.length (b.length+1)=true:=by
  rw[oN (Tq _) d];exact CB b b.length
 refine⟨by rw[m,e,Tv,h.len];rfl,fun n u c w a l v=>?_,fun n u c=>?_,by rw[cO,iO,B];exact h.dep,fun i J=>?_⟩
 ·rw[m]at v;by_cases g:n<H.length
  ·rw[TQ g]at c;have z:=h.at_ g;have M:=h.le n u c;rw[h.ix s g];by_cases j:a<H.length
   ·have:=h.at_ j;have y:aw b n<=aw b a:=UB (ge l (by rw[<-h.len];exact j));rw[h.ix s j,tF y (by omega)];exact h.til n u c w a l (by omega)
   ·by_cases D:a=H.length
    ·subst D;rw[q,tF (by omega) (Tq _),<-h.now c w,UY (by omega),Vd]
    ·have E:a=H.length+1:=(by omega);subst E;rw[A,oN (by omega) d,<-h.now c w,UY (by omega),Vd]
  ·have F:n=H.length:=(by omega);have j:a=H.length+1:=(by omega);subst F j;rw[TJ (Tq _),Uz]at c;cases c
   rw[q,A,f,L];rfl
 ·rw[m];by_cases g:n<H.length
  ·rw[TQ g]at c;have:=h.le n u c;omega
  ·have:=(TA.1 c).1;rw[m]at this;rw[TJ (by omega),show n-H.length=0 by omega]at c;cases c
   omega
 ·obtain⟨G,I⟩:=h.rbl i J;rw[m,cO];refine⟨by omega,fun n g r=>?_⟩;by_cases p:n<H.length
  ·have z:=h.at_ p;rw[h.ix s p]at r ⊢;rw[oN (by omega) d]at r;rw[rs (by omega)];exact I n p r
  ·have C:n=H.length:=(by omega);subst C;rw[q,rs (Tq _),h.dep];constructor
   ·intro _;omega
   ·intro _;exact G
theorem oR(h:(kE H w)[i]?=some k):∃v,H[i]?=some v/\k=(if w<=i/\i<H.length then lK H.length v else v):=by
 unfold kE at h;rw[nu]at h;cases e:H[i]? with
 | none=>rw[e]at h;cases h
 | some v=>rw[e]at h;simp only[Option.map_some,Option.some.injEq]at h;exact⟨v,rfl,h.symm⟩
theorem ou.pop(h:ou b H (x++[w]))(s:Sm)(R:kF (b++[s]) b.length=false)(J:∀o,aR o s.k=o-1):ou (b++[s]) (kE H w) x:=by
 have e:lF (b++[s])=lF b:=by rw[nC,Tp (by rw[R];simp),TY]
 have t:(kE H w).length=H.length:=kQ H w H.length;have N:aw (b++[s]) H.length=b.length+1:=by
  unfold aw;rw[e,To,Un (by rw[h.len];exact Tq _)];exact cO b s
 have P:bt b b.length=(x.length:Int)+1:=by rw[h.dep,Tv];rfl
 obtain⟨B,l⟩:=h.rbl x.length (by rw[Tv];exact Nat.lt_succ_self _);have M:(x++[w]).getD x.length 0=w:=by rw[To,TJ (Tq _),Uz];rfl
 rw[M]at B l;have K:∀n,n<H.length->aO (b++[s]) (aw b n) (b.length+1)=(aO b (aw b n) b.length&&decide (n<w)):=fun n d=>by
  have p:=h.at_ d;rw[Hh (by omega)];cases g:aO b (aw b n) b.length
  ·rfl
  ·have q:=l n d g;have:=AQ (by omega) g;rw[J,U6,U6];by_cases c:n<w
   ·rw[UR c];exact UR (by omega)
   ·rw[UY c];exact UY (by omega)
 refine⟨by rw[t,e];exact h.len,fun n u D m a r A=>?_,fun n u D=>?_,by rw[cO,iO,J,P];omega,fun i I=>?_⟩
 ·obtain⟨v,j,rfl⟩:=oR D;have d:=(TA.1 j).1;have p:=h.at_ d;rw[t]at A;have f:oB v.XU=false:=by
   split at m
   ·unfold lK at m;split at m <;> exact m
   ·exact m
  have E:=h.now j f;rw[h.ix s d];have Q:=h.le n v j;by_cases y:a<H.length
  ·have:=h.at_ y;have C:aw b n<=aw b a:=UB (ge r (by rw[<-h.len];exact y));rw[h.ix s y,tF C (by omega),<-h.til n v j f a r (by omega)];split
   ·unfold lK;split
    ·next c=>rw[c.1];simp;omega
    ·rfl
   ·rfl
  ·have O:a=H.length:=(by omega);subst O;rw[N,K n d,<-E];by_cases c:w<=n
   ·rw[Tr ⟨c,d⟩,UY (show ¬n<w by omega),Bool.and_false];unfold lK;by_cases z:v.til=0
    ·rw[Tr ⟨z,f⟩]
     show(H.length==0||decide (H.length<H.length))=false
     rw[TU.2 (show H.length≠0 by omega),UY (Nat.lt_irrefl _)];rfl
    ·rw[Tp (fun q=>z q.1)];have:(v.til==0)=false:=TU.2 z;rw[this,UY (show ¬H.length<v.til by omega)];rfl
   ·rw[Tp (fun q=>c q.1),UR (show n<w by omega),Bool.and_true,UY (show ¬H.length<v.til by omega),Vd]
 ·obtain⟨v,j,rfl⟩:=oR D;have:=h.le n v j;rw[t];split
  ·unfold lK;split
   ·exact Tq _
   ·exact this
  ·exact this
 ·obtain⟨F,G⟩:=h.rbl i (by rw[Tv];exact Nat.lt_succ_of_lt I);have L:(x++[w]).getD i 0=x.getD i 0:=by rw[To,To,TQ I]
  rw[L]at F G;rw[t,cO];refine⟨F,fun n d g=>?_⟩;have p:=h.at_ d;rw[h.ix s d]at g ⊢;rw[K n d,TN]at g;rw[rs (by omega)];exact G n d g.1
def Pu(k:Int):Bool:=decide (2<=k/\k<=6)
structure gB(T:List Tk)(d:Db):Prop where
 hel:ou (aa T) d.XQ d.rbl
 ct:∀(n:Nat) (s:St),d.XQ[n]?=some s->fn (aq (aa T) (aw (aa T) n)).k.toList s.XU/\s.XV=bS T (aq (aa T) (aw (aa T) n))/\s.Xz=bB T (aq (aa T) (aw (aa T) n)).h/\dV T (aq (aa T) (aw (aa T) n)).h
 lab:d.XV=if Pu d.XU=true then tS T (fB T) else⟨#[]⟩
section
variable {T:List Tk} {t:Tk} {d d':Db}
theorem t8:kF (v++[L]) v.length=(((L.k.toList == [36,100])||(L.k.toList == [36,102])||(L.k.toList == [36,101])||(L.k.toList == [36,97])||(L.k.toList == [36,112]))):=by
 unfold kF;rw[lx]
theorem gB.old(R:gB T d)(q:iZ T (aa T) (aa T).length){M:List Sm}{b:St}(o:w<d.XQ.length)(p:d.XQ[w]?=some k)(e:aw (aa T++M) w=aw (aa T) w)(g:b.XU=k.XU)(i:b.XV=k.XV)(j:b.Xz=k.Xz) :
  fn (aq (aa T++M) (aw (aa T++M) w)).k.toList b.XU/\b.XV=bS (T++[t]) (aq (aa T++M) (aw (aa T++M) w))/\b.Xz=bB (T++[t]) (aq (aa T++M) (aw (aa T++M) w)).h/\dV (T++[t]) (aq (aa T++M) (aw (aa T++M) w)).h:=by
 obtain⟨l,m,n,f⟩:=R.ct w k p;have c:=R.hel.at_ o;rw[e,jJ _ _ _ c,g,i,j];refine⟨l,?_,?_,Lr T [t] _ f⟩
 ·rw[m];unfold bS;rw[fY T [t] _ (q.a _ c)]
 ·rw[n,qy T [t] _ f]
theorem gB.XE(R:gB T d)(k:iZ T (aa T) (aa T).length)(i:ce t.s=false)(c:d'.XQ=d.XQ)(f:d'.rbl=d.rbl)(g:d'.XV=if Pu d'.XU=true then tS (T++[t]) (fB T) else⟨#[]⟩):gB (T++[t]) d':=by
 obtain⟨b,e⟩:=lX (T:=T) (t:=t) i;refine⟨by rw[b,c,f];exact R.hel,fun n s a=>?_,by rw[e];exact g⟩;rw[c]at a;have j:=(TA.1 a).1;rw[b];have:=R.old (t:=t) k (M:=[]) j a (by rw[TY]) rfl rfl rfl;rw[TY]at this;exact this
theorem gB.other(R:gB T d)(p:iZ T (aa T) (aa T).length)(s:Sm)(c:aa (T++[t])=aa T++[s])(l:kF (aa T++[s]) (aa T).length=false)(m:∀o,o<=aR o s.k)(j:aR (bt (aa T) (aa T).length) s.k=(d'.rbl.length:Int))(i:d'.rbl=d.rbl∨d'.rbl=d.rbl++[d.XQ.length])(b:d'.XQ=d.XQ)(f:d'.XV=⟨#[]⟩)(g:d'.XU=0):gB (T++[t]) d':=by
 refine⟨by rw[c,b];exact R.hel.other s l m d'.rbl j i,fun n u a=>?_,by rw[f,g];rfl⟩;rw[b]at a;have e:=(TA.1 a).1;rw[c];exact R.old p e a (R.hel.ix s e) rfl rfl rfl
theorem gB.XR(R:gB T d)(z:iZ T (aa T) (aa T).length)(s:Sm)(f:aa (T++[t])=aa T++[s])(g:kF (aa T++[s]) (aa T).length=true)(x:∀o,aR o s.k=o)(u:St)(y:u.til=0)(p:fn s.k.toList u.XU)(w:u.XV=bS (T++[t]) s)(q:u.Xz=bB (T++[t]) s.h)(r:dV (T++[t]) s.h)(c:d'.XQ=d.XQ++[u])(i:d'.rbl=d.rbl)(j:d'.XV=⟨#[]⟩)(l:d'.XU=0):gB (T++[t]) d':=by
 refine⟨by rw[f,c,i];exact R.hel.XR s g x u y,fun n v a=>?_,by rw[j,l];rfl⟩;rw[c]at a;rw[f];by_cases b:n<d.XQ.length
 ·rw[TQ b]at a;exact R.old z b a (R.hel.ix s b) rfl rfl rfl
 ·have e:n=d.XQ.length:=by
   have:=(TA.1 a).1;rw[Tv]at this;have:n<d.XQ.length+1:=this;omega
  subst e;rw[TJ (Tq _),Uz]at a;cases a
  have m:aw (aa T++[s]) d.XQ.length=(aa T).length:=by
   unfold aw;rw[nC,Tr g,R.hel.len,To,TJ (Tq _),Uz];rfl
  rw[m,lx];exact⟨p,w,q,r⟩
theorem gB.pop(R:gB T d)(y:iZ T (aa T) (aa T).length)(s:Sm)(b:aa (T++[t])=aa T++[s])(m:kF (aa T++[s]) (aa T).length=false)(p:∀o,aR o s.k=o-1)(g:d.rbl=x++[w])(a:d'.XQ=kE d.XQ w)(i:d'.rbl=x)(j:d'.XV=⟨#[]⟩)(l:d'.XU=0):gB (T++[t]) d':=by
 have h:=R.hel;rw[g]at h;refine⟨by rw[b,a,i];exact h.pop s m p,fun n u e=>?_,by rw[j,l];rfl⟩;rw[a]at e;obtain⟨v,f,r⟩:=oR e;have c:=(TA.1 f).1;have q:u.XU=v.XU/\u.XV=v.XV/\u.Xz=v.Xz:=by
  rw[r];split
  ·unfold lK;split <;> exact⟨rfl,rfl,rfl⟩
  ·exact⟨rfl,rfl,rfl⟩
 rw[b];exact R.old y c f (R.hel.ix s c) q.1 q.2.1 q.2.2
end
section
variable {T:List Tk} {t:Tk} {d:Db}
theorem ru(h:dD l=false):ce l=false:=by
 cases a:ce l
 ·rfl
 ·have:=(lz a).1;rw[iQ,h]at this;cases this
theorem fP(h:(l.toList==o)=true)(a:((o == [36,46])||(o == [36,123])||(o == [36,125]))=false):ce l=false:=by
 rw[(jW (du h)).2.2];exact a
theorem gB.first(R:gB T d)(b:iZ T (aa T) (aa T).length)(A:bt (aa T) (aa T).length=(d.XW.length:Int))(p:fB T=T.length)(u:d.XU=0)(a:(ay d t.s).1=0):gB (T++[t]) (ay d t.s).2:=by
 have g:d.XV=⟨#[]⟩:=by rw[R.lab,u];rfl
 unfold ay at *;by_cases c:(t.s.toList == [36,123])=true
 ·rw[Tr c];obtain⟨k,-⟩:=nB (T:=T) (t:=t) p (by rw[(jW (du c)).2.2];decide);have i:∀o,aR o t.s=o+1:=fun o=>by rw[sK (du c)];rfl
  refine R.other b _ k (by rw[t8];simp only;rw[du c];decide) (fun o=>by show o<=aR o t.s;rw[i];omega) ?_ (TE rfl) rfl g u;show aR _ t.s=_;rw[i,R.hel.dep];simp only[List.length_append,List.length_cons,List.length_nil];omega
 rw[Tp c]at a ⊢;by_cases f:(t.s.toList == [36,125])=true
 ·rw[Tr f]at a ⊢;cases r:d.XW.getLast? with
  | none=>rw[r]at a;cases a
  | some q =>
   simp only;obtain⟨k,-⟩:=nB (T:=T) (t:=t) p (by rw[(jW (du f)).2.2];decide);have i:∀o,aR o t.s=o-1:=fun o=>by rw[sK (du f)];rfl
   have j:d.rbl≠[]:=by
    intro e;have:=R.hel.dep;rw[A,e]at this;have:d.XW=[]:=Uf (by simpa using this);rw[this]at r;cases r
   have x:d.rbl=d.rbl.dropLast++[d.rbl.getLast j]:=(V5 j).symm;have y:d.rbl.getLast?=some (d.rbl.getLast j):=VC j;unfold cU;rw[y];exact R.pop b _ k (by rw[t8];simp only;rw[du f];decide) (fun o=>i o) x rfl rfl g u
 rw[Tp f]at a ⊢;by_cases l:(t.s.toList == [36,99])=true
 ·rw[Tr l]at a ⊢;by_cases w:0<d.XW.length
  ·rw[Tr w]at a;cases a
  ·rw[Tp w];exact R.XE b (fP l (by decide)) rfl rfl g
 rw[Tp l]at a ⊢;by_cases m:(t.s.toList == [36,118])=true
 ·rw[Tr m];exact R.XE b (fP m (by decide)) rfl rfl g
 rw[Tp m]at a ⊢;by_cases n:(t.s.toList == [36,100])=true
 ·rw[Tr n];exact R.XE b (fP n (by decide)) rfl rfl g
 rw[Tp n]at a ⊢;split at a
 ·cases a
 ·next z =>
  rw[Tp z];unfold bV at *;cases v:dD t.s
  ·rw[v,Tp (by simp)]at a;split at a
   ·cases a
   ·next B =>
    split at a
    ·cases a
    ·next C =>
     rw[Tp (by simp),Tp B,Tp C];exact R.XE b (ru v) rfl rfl (by show t.s=tS (T++[t]) (fB T);rw[p,om])
  ·rw[v,Tr rfl]at a;cases a
theorem gB.key(R:gB T d)(c:iZ T (aa T) (aa T).length)(k:fB T+1=T.length)(j:d.XU=6)(a:(aJ d t.s).1=0):gB (T++[t]) (aJ d t.s).2:=by
 have b:d.XV=tS (T++[t]) (fB T):=by rw[R.lab,j,fY T [t] _ (by omega)];rfl
 unfold aJ at *;split
 ·next h=>exact R.XE c (fP h (by decide)) rfl rfl b
 ·next e =>
  rw[Tp e]at a;split
  ·next h=>exact R.XE c (fP h (by decide)) rfl rfl b
  ·next f =>
   rw[Tp f]at a;split
   ·next h=>exact R.XE c (fP h (by decide)) rfl rfl b
   ·next g =>
    rw[Tp g]at a;split
    ·next h=>exact R.XE c (fP h (by decide)) rfl rfl b
    ·next i=>rw[Tp i]at a;cases a
theorem Do(h:fn o D):((o == [36,100])||(o == [36,102])||(o == [36,101])||(o == [36,97])||(o == [36,112]))=!((D==7)||(D==8)):=by
 (rcases h with ⟨rfl,rfl⟩ | ⟨rfl,rfl⟩ | ⟨rfl,rfl⟩ | ⟨rfl,rfl⟩ | ⟨rfl,rfl⟩ | ⟨rfl,rfl⟩ | ⟨rfl,rfl⟩) <;> decide
theorem Ng(h:fn l.toList D):(aA l||aH l)=Pu D:=by
 have e:=jW (k:=l) rfl;rw[e.1,e.2.1];generalize l.toList=a at h
 (rcases h with ⟨rfl,rfl⟩ | ⟨rfl,rfl⟩ | ⟨rfl,rfl⟩ | ⟨rfl,rfl⟩ | ⟨rfl,rfl⟩ | ⟨rfl,rfl⟩ | ⟨rfl,rfl⟩) <;> decide
theorem gB.body(R:gB T d)(r:iZ T (aa T) (aa T).length)(H:eu T (fB T)=(l,w))(B:fB T<w)(A:w<=T.length)(m:fn l.toList d.XU)(F:eG T w T.length=f)(D:d.Xz=f.takeWhile jz)(p:Pl)(b:(aZ d t.s p).1=0):gB (T++[t]) (aZ d t.s p).2:=by
 have y:d.XV=if Pu d.XU=true then tS (T++[t]) (fB T) else⟨#[]⟩:=by rw[R.lab,fY T [t] _ (by omega)]
 rw[pj m]at *;by_cases n:(t.s.toList == [36,46])=true
 ·rw[Tr n]at *;obtain⟨G,-⟩:=By n;obtain⟨v,-⟩:=nV T t;rw[Tr G,oX H B A m]at v;simp only at v;have i:bB (T++[t]) w=d.Xz:=by
   unfold bB;rw[UC A,tJ _ t (fun u I=>?_) n,D,<-F,mb];have:=vp T w (by omega) u I;unfold ce at this;simp only[Bool.or_eq_false_iff]at this;exact this.1.1
  have C:dV (T++[t]) w:=⟨T.length,A,by simp,by rw[om];unfold nW;rw[n];simp⟩;have c:=m.dep.1;have e:kF (aa T++[(⟨fB T,T.length+1,w,l⟩:Sm)]) (aa T).length=!((d.XU==7)||(d.XU==8)):=by rw[t8];exact Do m
  unfold mu at *;split at b
  ·cases b
  ·next E =>
   rw[Tp E];split at b
   ·cases b
   ·next k =>
    rw[Tp k];simp only;cases a:((d.XU==7)||(d.XU==8))
    ·rw[a]at e;simp only[Bool.or_eq_false_iff]at a;have j:(aX d p).XQ=d.XQ++[⟨d.XU,d.XV,d.Xz,d.XK,p,0⟩]/\(aX d p).rbl=d.rbl:=by
      unfold aX nG nX;rw[a.1,a.2];simp only[Bool.false_eq_true,if_false];split <;> exact⟨rfl,rfl⟩
     refine R.XR r _ v e (fun o=>c o) ⟨d.XU,d.XV,d.Xz,d.XK,p,0⟩ rfl m ?_ i.symm C j.1 j.2 rfl rfl;show d.XV=bS (T++[t]) ⟨fB T,T.length+1,w,l⟩;unfold bS;simp only;rw[Ng m];exact y
    ·rw[a]at e;have j:(aX d p).XQ=d.XQ/\(aX d p).rbl=d.rbl:=by
      unfold aX eF;rw[Ul]at a;split
      ·exact⟨rfl,rfl⟩
      ·next q =>
       rw[Tr (a.resolve_left q)];exact⟨rfl,rfl⟩
     refine R.other r _ v e (fun o=>by show o<=aR o l;rw[c];exact Wb _) ?_ (TH j.2) j.1 rfl rfl;show aR _ l=_;rw[c,R.hel.dep];show _=((aX d p).rbl.length:Int)
     rw[j.2]
 ·rw[Tp n]at *;by_cases z:(t.s.toList == [36,61])=true/\(d.XU==5)=true/\d.XD=false
  ·rw[Tr z]at *;unfold cw at *;split at b
   ·cases b
   ·next g=>rw[Tp g];exact R.XE r (fP z.1 (by decide)) rfl rfl y
  ·rw[Tp z]at *;cases x:dD t.s
   ·rw[x,Tp (by simp)]at b;rw[Tp (by simp)];split at b
    ·next g=>rw[Tr g];exact R.XE r (ru x) rfl rfl y
    ·next g =>
     rw[Tp g];split at b
     ·next k=>rw[Tr k];exact R.XE r (ru x) rfl rfl y
     ·next k=>simp only at b;rw[b]at k;exact absurd rfl k
   ·rw[x,Tr rfl]at b;cases b
theorem gB.step(o:uL T d)(n:tA T (aa T) d)(q:∀j,j<T.length->aY T (aa T) j=0)(R:gB T d)(v:T.length<=100000)(p:Pl)(c:(aZ d t.s p).1=0):gB (T++[t]) (aZ d t.s p).2:=by
 obtain⟨k,-⟩:=BE T v q;rcases o with ⟨g,a,b,f,m⟩ | ⟨g,a,b,f,m,y,x⟩ | ⟨A,l,B,a,i,w,u,r,f,b,z,m,C⟩
 ·have e:aZ d t.s p=ay d t.s:=by unfold aZ;rw[a];rfl
  rw[e]at c ⊢;exact R.first k (CW n) g a c
 ·have e:aZ d t.s p=aJ d t.s:=by unfold aZ;rw[a];rfl
  rw[e]at c ⊢;exact R.key k g a c
 ·exact R.body k a i w u r b p c
end
theorem cn(h:fn o D):(D==3)=(o == [36,101])/\(D==2)=(o == [36,102])/\(D==1)=(o == [36,100])/\oB D=((o == [36,97])||(o == [36,112])):=by
 (rcases h with ⟨rfl,rfl⟩ | ⟨rfl,rfl⟩ | ⟨rfl,rfl⟩ | ⟨rfl,rfl⟩ | ⟨rfl,rfl⟩ | ⟨rfl,rfl⟩ | ⟨rfl,rfl⟩) <;> decide
theorem uo:lF v=(List.range (lF v).length).map (aw v):=by
 apply Vq;intro n;rw[Ua];by_cases h:n<(lF v).length
 ·rw[Vg h,Tn h];show _=some (aw v n);unfold aw;rw[To,Tn h];rfl
 ·rw[Un (by omega),Un (by rw[U8];omega)];rfl
theorem rF{m:Nat}(d:m=(lF b).length){p q:Nat->Bool}(f:∀j,j<b.length->p j=true->kF b j=true)(g:∀n,n<m->q n=p (aw b n)):((List.range m).filter q).map (aw b)=(List.range b.length).filter p:=by
 have a:(List.range b.length).filter p=(lF b).filter p:=by
  unfold lF;rw[WY];apply gn;intro j c;cases h:p j
  ·rfl
  ·rw[f j c h];rfl
 rw[a,uo b,<-d,List.filter_map];congr 1;apply gn;intro n e;exact g n e
theorem pC{n:Nat}(h:w<=n)(p:Nat->Bool):(List.range n).filter (fun j=>decide (j<w)&&p j)=(List.range w).filter p:=by
 have e:List.range n=List.range w++(List.range (n-w)).map (w + ·):=by
  have:=@List.range_add w (n-w);rwa [show w+(n-w)=n by omega]at this
 have b:(List.range w).filter (fun j=>decide (j<w)&&p j)=(List.range w).filter p:=gn (fun j a=>by rw[UR a,U6]);have c:((List.range (n-w)).map (w + ·)).filter (fun j=>decide (j<w)&&p j)=[]:=by
  rw[VZ];intro j a;obtain⟨i,-,rfl⟩:=UG.1 a;rw[UY (by omega)];simp
 rw[e,UI,b,c,TY]
section
variable {T:List Tk} {d:Db}
theorem gB.held(R:gB T d)(a:d.XQ[w]?=some k)(b:oB k.XU=false)(c:i<d.XQ.length):fE d.XQ w i=(decide (aw (aa T) w<aw (aa T) i)&&aO (aa T) (aw (aa T) w) (aw (aa T) i)):=by
 have g:=(TA.1 a).1;have f:=R.hel.len;unfold fE;rw[a];simp only;by_cases h:w<i
 ·rw[UR h,UR (ge h (by omega)),R.hel.til w k a b i h (by omega)]
 ·have:¬aw (aa T) w<aw (aa T) i:=by
   by_cases e:w=i
   ·rw[e];omega
   ·have:=ge (S:=aa T) (n:=i) (a:=w) (by omega) (by omega);omega
  rw[UY h,UY this];rfl
theorem gB.get(R:gB T d)(a:w<d.XQ.length):∃s,d.XQ[w]?=some s/\fn (aq (aa T) (aw (aa T) w)).k.toList s.XU/\s.XV=bS T (aq (aa T) (aw (aa T) w))/\s.Xz=bB T (aq (aa T) (aw (aa T) w)).h:=by
 refine⟨d.XQ[w],Tn a,?_⟩;obtain⟨b,c,e,-⟩:=R.ct w _ (Tn a);exact⟨b,c,e⟩
theorem gB.symsAt(R:gB T d)(a:w<d.XQ.length):symsAt d.XQ w=bB T (aq (aa T) (aw (aa T) w)).h:=by
 obtain⟨s,b,-,-,h⟩:=R.get a;unfold Go.Proofs.YtnbhnocdhbcbcaaGreat.symsAt;rw[b];exact h
theorem gB.syms(R:gB T d)(b:w<d.XQ.length):io d.XQ w=uI T (aa T) (aw (aa T) w):=by
 have l:=R.hel.len;have a:=R.hel.at_ b;have f:((List.range d.XQ.length).filter (Bh d.XQ w)).map (aw (aa T))=(List.range (aw (aa T) w)).filter (yV (aa T) (aw (aa T) w)):=by
  rw[<-pC (UB a)];refine rF l (fun j m h=>?_) (fun n c=>?_)
  ·unfold yV at h;simp only[Bool.and_eq_true]at h;unfold kF;rw[h.2.1];simp
  ·obtain⟨s,i,g,-,-⟩:=R.get c;unfold Bh yV;rw[i];simp only;rw[(cn g).1];cases e:((aq (aa T) (aw (aa T) n)).k.toList == [36,101])
   ·simp
   ·have a:oB s.XU=false:=by
     rw[(cn g).2.2.2,cI e,cI e];decide
    rw[R.held i a b,U6,U6]
 unfold io fA uI kL;rw[R.symsAt b,<-f,List.flatMap_map];congr 1;apply dS;intro n c;exact R.symsAt (TG.1 (Uk.1 c).1)
def RV(T:List Tk)(S:List Sm):Prop:=∀j,j<S.length->((aq S j).k.toList == [36,102])=true->2<=(bB T (aq S j).h).length/\(bB T (aq S j).h).getD 1 ⟨#[]⟩=tS T ((aq S j).h+1)
theorem gB.hyps(R:gB T d)(F:RV T (aa T))(e:w<d.XQ.length):(aP d.XQ w).map (aw (aa T))=a9 T (aa T) (aw (aa T) w):=by
 have t:=R.hel.len;have b:=R.hel.at_ e;unfold aP eN a9;rw[R.syms e,<-pC (UB b)];refine rF t (fun j x h=>?_) (fun n i=>?_)
 ·unfold t7 at h;simp only[Bool.and_eq_true,Bool.or_eq_true]at h;unfold kF;rcases h.2.2 with h | h
  ·rw[h];simp
  ·rw[h.1];simp
 ·obtain⟨s,f,r,-,g⟩:=R.get i;have q:=R.hel.at_ i;obtain⟨v,l,y,m⟩:=cn r;unfold nL t7 qK;rw[f];simp only;rw[l];cases a:((aq (aa T) (aw (aa T) n)).k.toList == [36,102])
  ·rw[Tp (by simp),v];cases c:((aq (aa T) (aw (aa T) n)).k.toList == [36,101])
   ·simp
   ·have b:oB s.XU=false:=(by rw[m,cI c,cI c];decide);rw[R.held f b e];simp
  ·have b:oB s.XU=false:=(by rw[m,cI a,cI a];decide);have c:((aq (aa T) (aw (aa T) n)).k.toList == [36,101])=false:=(by rw[cI a];decide);obtain⟨o,p⟩:=F _ q a;have u:aN s=tS T ((aq (aa T) (aw (aa T) n)).h+1):=by
    unfold aN;rw[Tr ⟨by rw[l];exact a,by rw[g];exact o⟩,g,p]
   rw[Tr rfl,R.held f b e,u,c,UN,U6,Wu]
end
theorem Ju(L:List Tk):∀i,i<(lJ L).length->(lJ L)[i]?=L[i]?.map (·.s):=by
 induction L with
 | nil=>intro i a;cases a
 | cons t L b =>
  intro i a;unfold lJ at a ⊢;split
  ·next h=>rw[Tr h]at a;cases a
  ·next h =>
   rw[Tp h]at a;cases i with
   | zero=>rfl
   | succ i=>exact b i (by simpa using a)
theorem qz(T:List Tk)(h i:Nat)(a:i<(bB T h).length):(bB T h).getD i ⟨#[]⟩=tS T (h+i):=by
 unfold bB at *;have:=Ju (T.drop h) i a;unfold tS;rw[To,this,Vz,To];cases T[h+i]? <;> rfl
section
variable {T:List Tk} {t:Tk} {d d':Db}
def vr(s:St):Xs:=s.Xz.getD 1 ⟨#[]⟩
structure rW(d:Db):Prop where
 fl:∀(n:Nat) (s:St),d.XQ[n]?=some s->s.XU=2->2<=s.Xz.length
 ds:∀(n m:Nat) (s u:St),d.XQ[n]?=some s->d.XQ[m]?=some u->s.XU=2->u.XU=2->n<m->(s.til=0∨m<s.til)->((vr s).toList==(vr u).toList)=false
 op:d.XU=2->2<=d.Xz.length->aK d.XL (d.Xz.getD 1 ⟨#[]⟩)=false
theorem gB.XL(R:gB T d)(E:tA T (aa T) d)(F:rW d)(b:d.XQ[w]?=some k)(c:k.XU=2)(f:k.til=0):aK d.XL (vr k)=true:=by
 have m:=(TA.1 b).1;obtain⟨j,-,e,-⟩:=R.ct w k b;have g:oB k.XU=false:=by rw[c];rfl
 have a:=R.hel.now b g;rw[f]at a;have i:=R.hel.at_ m;have n:((aq (aa T) (aw (aa T) w)).k.toList == [36,102])=true:=by rw[<-(cn j).2.1,c];rfl
 rw[E.typ.l,oV,Ut];refine⟨aw (aa T) w,Uk.2 ⟨TG.2 i,a.symm⟩,?_⟩;unfold Ih;rw[Tr n,sO];have o:=F.fl w k b c;unfold vr;rw[e,qz T _ 1 (by rw[<-e];omega)];simp
theorem rW.same(F:rW d)(b:d'.XQ=d.XQ)(e:d'.XU=2->2<=d'.Xz.length->aK d'.XL (d'.Xz.getD 1 ⟨#[]⟩)=false):rW d' :=
 ⟨fun n s a=>by rw[b]at a;exact F.fl n s a,fun n m s u a c=>by rw[b]at a c;exact F.ds n m s u a c,e⟩
theorem rW.ended(F:rW d)(b:Nat)(o:d'.XQ=kE d.XQ b)(p:d'.XU=0):rW d':=by
 have q:∀(n:Nat) (s:St),d'.XQ[n]?=some s->∃v,d.XQ[n]?=some v/\s.XU=v.XU/\s.Xz=v.Xz/\(s.til=v.til∨(v.til=0/\s.til=d.XQ.length)):=fun n s a=>by
  rw[o]at a;obtain⟨v,f,z⟩:=oR a;refine⟨v,f,?_⟩;rw[z];split
  ·unfold lK;split
   ·next c=>exact⟨rfl,rfl,TE ⟨c.1,rfl⟩⟩
   ·exact⟨rfl,rfl,TH rfl⟩
  ·exact⟨rfl,rfl,TH rfl⟩
 refine⟨fun n s a j=>?_,fun n m s u a y j k l w=>?_,fun h=>by rw[p]at h;cases h⟩
 ·obtain⟨v,f,g,i,-⟩:=q n s a;rw[i];exact F.fl n v f (by rw[<-g];exact j)
 ·obtain⟨v,f,g,i,e⟩:=q n s a;obtain⟨x,A,r,t,-⟩:=q m u y;unfold vr;rw[i,t];refine F.ds n m v x f A (by rw[<-g];exact j) (by rw[<-r];exact k) l ?_;rcases e with e | ⟨e,-⟩
  ·rw[<-e];exact w
  ·exact TH e
theorem rW.more(R:gB T d)(E:tA T (aa T) d)(F:rW d)(u:St)(l:u.XU=2->2<=u.Xz.length/\aK d.XL (vr u)=false)(o:d'.XQ=d.XQ++[u])(p:d'.XU=0):rW d':=by
 have q:∀(n:Nat) (s:St),d'.XQ[n]?=some s->(n<d.XQ.length/\d.XQ[n]?=some s)∨(n=d.XQ.length/\s=u):=fun n s a=>by
  rw[o]at a;by_cases g:n<d.XQ.length
  ·rw[TQ g]at a;exact TH ⟨g,a⟩
  ·have:=(TA.1 a).1;rw[Tv]at this;have:n<d.XQ.length+1:=this;rw[TJ (by omega),show n-d.XQ.length=0 by omega]at a;cases a
   exact TE ⟨by omega,rfl⟩
 refine⟨fun n s a b=>?_,fun n m s x a A b c k v=>?_,fun h=>by rw[p]at h;cases h⟩
 ·rcases q n s a with ⟨-,h⟩ | ⟨-,rfl⟩
  ·exact F.fl n s h b
  ·exact(l b).1
 ·rcases q m x A with ⟨y,t⟩ | ⟨y,rfl⟩
  ·rcases q n s a with ⟨-,f⟩ | ⟨g,-⟩
   ·exact F.ds n m s x f t b c k v
   ·omega
  ·rcases q n s a with ⟨-,f⟩ | ⟨g,-⟩
   ·have w:=R.hel.le n s f;have r:s.til=0:=(by omega);have i:=R.XL E F f b r;have j:=(l c).2;cases z:((vr s).toList==(vr x).toList)
    ·rfl
    ·have e:(vr s).toList=(vr x).toList:=(by simpa using z);unfold aK at i j;rw[e]at i;rw[i]at j;cases j
   ·omega
theorem rW.step(y:uL T d)(x:tA T (aa T) d)(R:gB T d)(F:rW d)(p:Pl)(f:(aZ d t.s p).1=0):rW (aZ d t.s p).2:=by
 rcases y with ⟨E,i,j,m,w⟩ | ⟨E,i,j,m,w,I,H⟩ | ⟨K,v,B,i,G,O,D,N,m,j,J,w,M⟩
 ·have e:aZ d t.s p=ay d t.s:=by unfold aZ;rw[i];rfl
  rw[e]at f ⊢;unfold ay bV cU at *;have k:∀d':Db,d'.XQ=d.XQ->d'.XU≠2->rW d':=fun d' l n=>F.same l (fun h=>absurd h n)
  repeat' split
  all_goals first
   | exact F
   | exact F.ended _ rfl i
   | exact k _ rfl (by rw[show _=_ from i];decide)
   | exact k _ rfl (by simp only;decide)
   | exact k _ rfl (by simp only;rw[i];decide)
   | exact k _ rfl (by show d.XU≠2;rw[i];decide)
 ·have e:aZ d t.s p=aJ d t.s:=by unfold aZ;rw[i];rfl
  rw[e]at f ⊢;have k:∀d':Db,d'.XQ=d.XQ->d'.Xz=d.Xz->rW d':=fun d' l n=>F.same l (fun _ h=>by rw[n,j]at h;simp at h);unfold aJ
  repeat' split
  all_goals exact k _ rfl rfl
 ·rw[pj D]at f ⊢;by_cases u:(t.s.toList == [36,46])=true
  ·rw[Tr u]at f ⊢;unfold mu at *;split at f
   ·cases f
   ·next r =>
    rw[Tp r];split at f
    ·cases f
    ·next A =>
     rw[Tp A];simp only;cases c:((d.XU==7)||(d.XU==8))
     ·simp only[Bool.or_eq_false_iff]at c;have o:(aX d p).XQ=d.XQ++[⟨d.XU,d.XV,d.Xz,d.XK,p,0⟩]:=by
       unfold aX nG nX;rw[c.1,c.2];simp only[Bool.false_eq_true,if_false];split <;> rfl
      refine rW.more R x F ⟨d.XU,d.XV,d.Xz,d.XK,p,0⟩ (fun b=>?_) o rfl;replace b:d.XU=2:=b;have a:2<=d.Xz.length:=by
       unfold mQ at r;rw[Tr (TE (by rw[b];rfl))]at r;omega
      exact⟨a,F.op b a⟩
     ·have o:(aX d p).XQ=d.XQ:=by
       unfold aX eF;rw[Ul]at c;split
       ·rfl
       ·next q=>rw[Tr (c.resolve_left q)]
      exact F.same o (fun h=>by cases h)
  ·rw[Tp u]at f ⊢;split
   ·unfold cw;split <;> exact F.same rfl F.op
   ·split
    ·exact F
    ·split
     ·exact F.same rfl F.op
     ·split
      ·next C =>
       refine F.same rfl (fun b a=>?_);replace b:d.XU=2:=b;replace a:2<=(d.Xz++[t.s]).length:=a;rw[Tv]at a;replace a:2<=d.Xz.length+1:=a;have g:bi d t.s=0:=by simpa using C
       unfold bi at g;rw[b,Tp (by decide),Tp (by decide),Tp (by decide),Tp (by omega),Tr (by rfl)]at g;unfold gi at g;split at g
       ·cases g
       ·next L =>
        split at g
        ·cases g
        ·split at g
         ·cases g
         ·next z =>
          show aK d.XL ((d.Xz++[t.s]).getD 1 ⟨#[]⟩)=false;have l:(d.Xz++[t.s]).getD 1 ⟨#[]⟩=t.s:=by
           rw[To,TJ (by omega),show 1-d.Xz.length=0 by omega];rfl
          rw[l];simpa using z
      ·exact F
theorem gB.flo(R:gB T d)(F:rW d):RV T (aa T):=by
 intro j i c;have a:j∈lF (aa T):=Uk.2 ⟨TG.2 i,by unfold kF;rw[c];simp⟩;rw[uo]at a;obtain⟨n,b,rfl⟩:=UG.1 a;have b:n<d.XQ.length:=by rw[R.hel.len];exact TG.1 b
 obtain⟨s,k,f,-,g⟩:=R.get b;have l:s.XU=2:=by
  have:=(cn f).2.1;rw[c]at this;simpa using this
 have e:=F.fl n s k l;rw[g]at e;exact⟨e,qz T _ 1 (by omega)⟩
end
end Go.Proofs.YtnbhnocdhbcbcaaGreat
