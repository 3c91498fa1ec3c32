import Derived.Test.YtnbhnocdhbcbcaaGreatK07
import Derived.Test.YtnbhnocdhbcbcaaGreatK18
import Derived.Test.YtnbhnocdhbcbcaaGreatK23
namespace Go.Proofs.YtnbhnocdhbcbcaaGreat
open Go.RowKit Tryz
open Value IntKind Ending
set_option maxHeartbeats 0
variable{o:List UInt8}{D:Int}{l:Xs}{f:Xt}{w i:Nat}{y:Db}{b:List Sm}{I:Sm}{H:List St}{x:Xv}{k:St}(v:List Sm)(L:Sm)
theorem Df(l:Xt):∀v x,aK (eU v l) x=(aK v x||aK l x):=by
 induction l with
 | nil=>intro v x;rw[jt,Vc];rfl
 | cons a l f =>
  intro v x;have e:eU v (a :: l)=eU (if aK v a=true then v else v++[a]) l:=rfl;have b:aK (a :: l) x=((a.toList==x.toList)||aK l x):=rfl;rw[e,f,b];by_cases h:aK v a=true
  ·rw[Tq h];cases c:(a.toList==x.toList)
   ·rw[UM]
   ·have d:aK v x=true:=by
     have:a.toList=x.toList:=(by simpa using c);unfold aK at h ⊢;rw[<-this];exact h
    rw[d];rfl
  ·rw[To h,xK,sN,V6]
section
variable {T:List Tk} {t:Tk} {d:Db}
theorem pi(b:fm o d.XS)(x:Xs)(p:Pl):aZ d x p =
  if(x.toList == [36,46])=true then mt d p
  else if(x.toList == [36,61])=true/\(d.XS==5)=true/\d.XC=false then cv d
  else if dC x=true then(8,d)
  else if d.XC=true then(0,{ d with XJ:=d.XJ++[(x,p)] })
  else if(bi d x==0)=true then(0,{ d with Xy:=d.Xy++[x] })
  else(bi d x,d):=by
 have a:(d.XS==0)=false/\(d.XS==6)=false:=by
  generalize d.XS=k at b
  (rcases b with ⟨rfl,rfl⟩ | ⟨rfl,rfl⟩ | ⟨rfl,rfl⟩ | ⟨rfl,rfl⟩ | ⟨rfl,rfl⟩ | ⟨rfl,rfl⟩ | ⟨rfl,rfl⟩) <;> exact⟨by decide,by decide⟩
 unfold aZ;rw[a.1,a.2,To (by simp),To (by simp)]
theorem Rd(a:fm o D):(D==5)=(o == [36,112]):=by(rcases a with ⟨rfl,rfl⟩ | ⟨rfl,rfl⟩ | ⟨rfl,rfl⟩ | ⟨rfl,rfl⟩ | ⟨rfl,rfl⟩ | ⟨rfl,rfl⟩ | ⟨rfl,rfl⟩) <;> decide
theorem Mz(I:tx T (aa T) d)(j:fm l.toList d.XS)(c:d.Xy=f)(m:(aA l||aH l)=false->d.XG=kg T (aa T))(x:Xs) :
  (if((l.toList == [36,99])||(l.toList == [36,118]))=true then j6 T (aa T) x (aa T).length (l.toList == [36,99]) f else il T (aa T) l x (aa T).length f)=bi d x:=by
 have b:=fun h=>Ep I (m h) x;have a:=fun h=>Lv I (m h) x;have e:iE T (aa T) x (aa T).length=aK d.XH x:=by rw[I6,<-I.act.l]
 have g:eK T (aa T) x (aa T).length=aK d.XA x:=by rw[uU,<-I.con]
 have i:decide (0<=gJ T (aa T) x (aa T).length)=aK d.XK x:=by rw[JO,<-I.typ.l]
 obtain⟨n,o,-⟩:=jV (k:=l) rfl;unfold j6 il bi jB jC gg fZ;rw[c];have p:(gJ T (aa T) x (aa T).length<0) ↔ aK d.XK x=false:=by
  rw[<-i];simp
 have q:(0<=gJ T (aa T) x (aa T).length) ↔ aK d.XK x=true:=by
  rw[<-i];simp
 generalize hkl:l.toList=r at *;generalize d.XS=k at j ⊢;simp only[e,g,p,q];rw[n,o]at b a;rcases j with ⟨rfl,rfl⟩ | ⟨rfl,rfl⟩ | ⟨rfl,rfl⟩ | ⟨rfl,rfl⟩ | ⟨rfl,rfl⟩ | ⟨rfl,rfl⟩ | ⟨rfl,rfl⟩
 ·have b:=b (by decide);rw[b];simp only[show(([36,99]:List UInt8) == [36,99])=true from by decide,show((7:Int)==7)=true from rfl,Bool.true_or,if_true,Bool.true_and,Bool.not_true,Bool.false_and,Bool.false_eq_true,if_false];cases aK f x <;> cases eC d x <;> simp
 ·have a:=a (by decide);rw[e,g]at a;rw[a];simp only[show(([36,118]:List UInt8) == [36,99])=false from by decide,show(([36,118]:List UInt8) == [36,118])=true from by decide,show((8:Int)==7)=false from rfl,show((8:Int)==8)=true from rfl,Bool.or_true,if_true,Bool.false_and,Bool.not_false,Bool.true_and,Bool.false_eq_true,if_false];cases aK f x <;> cases fc d x <;> simp
 ·simp only[show(([36,100]:List UInt8) == [36,99])=false from by decide,show(([36,100]:List UInt8) == [36,118])=false from by decide,show(([36,100]:List UInt8) == [36,100])=true from by decide,show((1:Int)==7)=false from rfl,show((1:Int)==8)=false from rfl,show((1:Int)==1)=true from rfl,Bool.or_false,if_true,Bool.false_eq_true,if_false]
 ·simp only[show(([36,102]:List UInt8) == [36,99])=false from by decide,show(([36,102]:List UInt8) == [36,118])=false from by decide,show(([36,102]:List UInt8) == [36,100])=false from by decide,show(([36,102]:List UInt8) == [36,102])=true from by decide,show((2:Int)==7)=false from rfl,show((2:Int)==8)=false from rfl,show((2:Int)==1)=false from rfl,show((2:Int)==2)=true from rfl,Bool.or_false,if_true,Bool.false_eq_true,if_false,beq_iff_eq]
 ·simp only[show(([36,101]:List UInt8) == [36,99])=false from by decide,show(([36,101]:List UInt8) == [36,118])=false from by decide,show(([36,101]:List UInt8) == [36,100])=false from by decide,show(([36,101]:List UInt8) == [36,102])=false from by decide,show((3:Int)==7)=false from rfl,show((3:Int)==8)=false from rfl,show((3:Int)==1)=false from rfl,show((3:Int)==2)=false from rfl,Bool.or_false,Bool.false_eq_true,if_false,beq_iff_eq]
 ·simp only[show(([36,97]:List UInt8) == [36,99])=false from by decide,show(([36,97]:List UInt8) == [36,118])=false from by decide,show(([36,97]:List UInt8) == [36,100])=false from by decide,show(([36,97]:List UInt8) == [36,102])=false from by decide,show((4:Int)==7)=false from rfl,show((4:Int)==8)=false from rfl,show((4:Int)==1)=false from rfl,show((4:Int)==2)=false from rfl,Bool.or_false,Bool.false_eq_true,if_false,beq_iff_eq]
 ·simp only[show(([36,112]:List UInt8) == [36,99])=false from by decide,show(([36,112]:List UInt8) == [36,118])=false from by decide,show(([36,112]:List UInt8) == [36,100])=false from by decide,show(([36,112]:List UInt8) == [36,102])=false from by decide,show((5:Int)==7)=false from rfl,show((5:Int)==8)=false from rfl,show((5:Int)==1)=false from rfl,show((5:Int)==2)=false from rfl,Bool.or_false,Bool.false_eq_true,if_false,beq_iff_eq]
theorem QX(j:fm l.toList d.XS)(b:d.XC=aK f ⟨#[36,61]⟩)(e:d.Xy=f.takeWhile jy)(c:d.XC=true->d.XS=5/\d.Xy≠[])(p:Pl):i9 l f=(mt d p).1/\((mt d p).1=0->(mt d p).2={ aX d p with XS:=0,XU:=⟨#[]⟩,Xy:=[],XC:=false,XJ:=[] }/\(d.XS=2->1<d.Xy.length)):=by
 have n:d.XC=false->d.Xy=f:=fun h=>by rw[e];exact tY f (by rw[<-b];exact h)
 have o:d.XC=true->0<f.length/\0<d.Xy.length:=fun h=>by
  refine⟨?_,Wh.2 (c h).2⟩;rw[b]at h;cases f with
  | nil=>cases h
  | cons a f=>simp
 unfold i9 mt mP;rw[<-b];generalize hkl:l.toList=r at *;generalize hkk:d.XS=k at *;clear e b;cases i:d.XC
 ·rw[n i];generalize f.length=m
  (rcases j with ⟨rfl,rfl⟩ | ⟨rfl,rfl⟩ | ⟨rfl,rfl⟩ | ⟨rfl,rfl⟩ | ⟨rfl,rfl⟩ | ⟨rfl,rfl⟩ | ⟨rfl,rfl⟩) <;> simp <;> (repeat' split) <;> simp_all <;> omega
 ·obtain⟨t,u⟩:=o i;have g:=(c i).1;subst g;generalize f.length=m at *;generalize d.Xy.length=s at *;rcases j with ⟨-,h⟩ | ⟨-,h⟩ | ⟨-,h⟩ | ⟨-,h⟩ | ⟨-,h⟩ | ⟨-,h⟩ | ⟨rfl,-⟩
  all_goals first | (exfalso;revert h;decide) | skip
  simp
  (repeat' split) <;> simp_all <;> omega
end
section
variable {T:List Tk} {t:Tk} {d:Db}
theorem Bx:∀{x:Xs},(x.toList == [36,46])=true->cd x=true/\ii x ⟨#[36]⟩=true:=fun {x} h=>by
 rw[(jV (dr h)).2.2,Gx (dr h)];decide +kernel
theorem Gv(Z:iY T (aa T) (aa T).length)(fo:mT T (aa T) (aa T).length)(I:tx T (aa T) d)(hk:ee T (fA T)=(l,w))(O:fA T<w)(X:w<=T.length)(K:fm l.toList d.XS)(J:eF T w T.length=f)(U:d.Xy=f.takeWhile jy)(R:d.XC=true->d.XS=5/\d.Xy≠[])(hl:d.XG=kg T (aa T)++(if(aA l||aH l)=true then [tS T (fA T)] else []))(h0:(aA l||aH l)=true->((tS T (fA T)).toList == [])=false)(Y:(t.s.toList == [36,46])=true)(p:Pl)(G:d.XS=2->1<d.Xy.length)(M:d.XC=false->d.Xy=f)(v:y={ aX d p with XS:=0,XU:=⟨#[]⟩,Xy:=[],XC:=false,XJ:=[] }) :
  tx (T++[t]) (aa (T++[t])) y/\uK (T++[t]) y:=by
 obtain⟨W,-⟩:=Bx Y;obtain⟨C,V⟩:=nU T t;rw[Tq W,oV hk O X K]at C;rw[Tq W]at V;simp only at C;have r:bB (T++[t]) w=d.Xy:=by
  unfold bB;rw[UB X,tI _ t (fun u hu=>?_) Y,U,<-J,ma];have:=vo T w (by omega) u hu;unfold cd at this;simp only[Bool.or_eq_false_iff]at this;exact this.1.1
 have D:=K.dep.1;obtain⟨s,H⟩:∃s:Sm,s=⟨fA T,T.length+1,w,l⟩:=⟨_,rfl⟩
 rw[<-H]at C;have q:s.k=l:=by rw[H]
 have B:s.h=w:=by rw[H]
 have S:s.a=fA T:=by rw[H]
 have v1:EB (T++[t]) (aa T++[s]) (aa T).length=if(l.toList == [36,118])=true then d.Xy else []:=by
  unfold EB;rw[lu,q,B,r]
 have v2:Jz (T++[t]) (aa T++[s]) (aa T).length=if(l.toList == [36,99])=true then d.Xy else []:=by
  unfold Jz;rw[lu,q,B,r]
 have v3:Ig (T++[t]) (aa T++[s]) (aa T).length=if(l.toList == [36,102])=true then [tS (T++[t]) (w+1)] else []:=by
  unfold Ig;rw[lu,q,B]
 have E:kg (T++[t]) (aa T++[s])=d.XG:=by
  rw[vh s Z,hl];congr 1;cases L:(aA l||aH l)
  ·rw[To (by simp)];exact Fv (by rw[q];exact L)
  ·have e:tS (T++[t]) s.a=tS T (fA T):=(by rw[S,fX T [t] _ (by omega)]);rw[Tq rfl,<-e];exact Ps (by rw[q];exact L) (by rw[e];exact h0 L)
 have Q:fA (T++[t])=(T++[t]).length:=by rw[V];simp
 have dv:y.XA=(aX d p).XA/\y.XB=(aX d p).XB/\y.XH=(aX d p).XH/\y.XK=(aX d p).XK/\y.XV=(aX d p).XV/\y.XG=(aX d p).XG:=by
  rw[v];exact⟨rfl,rfl,rfl,rfl,rfl,rfl⟩
 obtain⟨b,c,g,i,j,m⟩:=dv;rw[C];have A:y.XA=d.XA++(if(l.toList == [36,99])=true then d.Xy else [])->(∀x,aK y.XB x=(aK d.XB x||aK (if(l.toList == [36,118])=true then d.Xy else []) x))->y.XH=d.XH++(if(l.toList == [36,118])=true then d.Xy else [])->y.XK=d.XK++(if(l.toList == [36,102])=true then [tS (T++[t]) (w+1)] else [])->y.XV=d.XV->y.XG=d.XG->tx (T++[t]) (aa T++[s]) y/\uK (T++[t]) y:=fun g1 g2 g3 g4 g5 g6 =>
  ⟨I.close Z fo s (fun o=>by rw[q];exact D o) (by rw[v2];exact g1) (fun x=>by rw[v1];exact g2 x) (by rw[v1];exact g3) (by rw[v3];exact g4) g5,
   uK.none Q (by rw[v]) (by rw[v]) (by rw[v]) (by rw[C,E];exact g6)⟩
 -- the seven keys
 have n:∀k:Int,d.XS=k->(k==7)=false->(k==8)=false->(k==2)=false->aX d p=nF d p:=fun k N e7 e8 e2=>by
  unfold aX nW;rw[N,e7,e8,e2];simp
 generalize hkl:l.toList=ac at *;generalize hkk:d.XS=k at *;rcases K with ⟨rfl,rfl⟩ | ⟨rfl,rfl⟩ | ⟨rfl,rfl⟩ | ⟨rfl,rfl⟩ | ⟨rfl,rfl⟩ | ⟨rfl,rfl⟩ | ⟨rfl,rfl⟩
 ·have e:aX d p={ d with XA:=d.XA++d.Xy }:=by unfold aX;rw[hkk];rfl
  rw[e]at b c g i j m;exact A (by rw[b];rfl) (fun x=>by rw[c];simp[jt]) (by rw[g];simp) (by rw[i];simp) j m
 ·have e:aX d p=eD d d.Xy.length:=by unfold aX;rw[hkk];rfl
  rw[e]at b c g i j m;unfold eD at b c g i j m;exact A (by rw[b];simp) (fun x=>by rw[c];simp only[List.take_length];rw[Df];rfl) (by rw[g];rfl) (by rw[i];simp) j m
 ·have e:=n 1 rfl rfl rfl rfl;rw[e]at b c g i j m;unfold nF at b c g i j m;exact A (by rw[b];simp) (fun x=>by rw[c];simp[jt]) (by rw[g];simp) (by rw[i];simp) j m
 ·have G:=G rfl;have P:d.XC=false:=by
   cases h:d.XC
   ·rfl
   ·exact absurd (R h).1 (by decide)
  have F:=M P;have e:aX d p=nF { d with XK:=d.XK++[d.Xy.getD 1 ⟨#[]⟩] } p:=by
   unfold aX nW;rw[hkk,To (by decide),To (by decide),Tq ⟨rfl,G⟩]
  have hg:d.Xy.getD 1 ⟨#[]⟩=tS (T++[t]) (w+1):=by
   have z:w+1<T.length:=by
    rw[F,<-J,ma,TR,Uw]at G;omega
   rw[F,<-J,ma,fX T [t] _ z];unfold tS;rw[Tn,Tn,T0,Vy,Tm z];rfl
  rw[e]at b c g i j m;unfold nF at b c g i j m;exact A (by rw[b];simp) (fun x=>by rw[c];simp[jt]) (by rw[g];simp) (by rw[i,hg];rfl) j m
 ·have e:=n 3 rfl rfl rfl rfl;rw[e]at b c g i j m;unfold nF at b c g i j m;exact A (by rw[b];simp) (fun x=>by rw[c];simp[jt]) (by rw[g];simp) (by rw[i];simp) j m
 ·have e:=n 4 rfl rfl rfl rfl;rw[e]at b c g i j m;unfold nF at b c g i j m;exact A (by rw[b];simp) (fun x=>by rw[c];simp[jt]) (by rw[g];simp) (by rw[i];simp) j m
 ·have e:=n 5 rfl rfl rfl rfl;rw[e]at b c g i j m;unfold nF at b c g i j m;exact A (by rw[b];simp) (fun x=>by rw[c];simp[jt]) (by rw[g];simp) (by rw[i];simp) j m
theorem BZ(n:iY T (aa T) (aa T).length)(z:mT T (aa T) (aa T).length)(I:tx T (aa T) d)(D:ee T (fA T)=(l,w))(b:fA T<w)(m:w<=T.length)(k:fm l.toList d.XS)(B:eF T w T.length=f)(E:d.XG=kg T (aa T)++(if(aA l||aH l)=true then [tS T (fA T)] else []))(A:(aA l||aH l)=true->((tS T (fA T)).toList == [])=false)(C:cd t.s=false)(o:y.XA=d.XA)(p:y.XB=d.XB)(q:y.XH=d.XH)(r:y.XK=d.XK)(u:y.XV=d.XV)(v:y.XG=d.XG)(x:y.XS=d.XS)(e:y.XC=aK (f++[t.s]) ⟨#[36,61]⟩)(i:y.Xy=(f++[t.s]).takeWhile jy)(g:y.XC=true->y.XS=5/\y.Xy≠[]):tx (T++[t]) (aa (T++[t])) y/\uK (T++[t]) y:=by
 obtain⟨j,c⟩:=lW (T:=T) (t:=t) C;have a:tS (T++[t]) (fA (T++[t]))=tS T (fA T):=by rw[c,fX T [t] _ (by omega)]
 refine⟨by rw[j];exact I.same n z o p q r u,uK.body l w (f++[t.s]) (by rw[c];exact oV D b m k) (by rw[c];exact b) (by simp;omega) (by rw[x];exact k) (by rw[Mr t w m,B]) e i g ?_ (fun h=>by rw[a];exact A h)⟩;rw[j,rA n,a,v];exact E
theorem Ll(E:iY T (aa T) (aa T).length)(u:mT T (aa T) (aa T).length)(I:tx T (aa T) d)(C:ee T (fA T)=(l,w))(b:fA T<w)(B:w<=T.length)(j:fm l.toList d.XS)(A:eF T w T.length=f)(a:d.XC=aK f ⟨#[36,61]⟩)(i:d.Xy=f.takeWhile jy)(m:d.XC=true->d.XS=5/\d.Xy≠[])(r:d.XG=kg T (aa T)++(if(aA l||aH l)=true then [tS T (fA T)] else []))(x:(aA l||aH l)=true->((tS T (fA T)).toList == [])=false)(p:Pl) :
  mH T (aa T) l t.s (aa T).length f=(aZ d t.s p).1/\((aZ d t.s p).1=0->tx (T++[t]) (aa (T++[t])) (aZ d t.s p).2/\uK (T++[t]) (aZ d t.s p).2):=by
 have k:d.XC=false->d.Xy=f:=fun h=>by rw[i];exact tY f (by rw[<-a];exact h)
 have o:(⟨#[36,61]⟩:Xs).toList=[36,61]:=by decide +kernel
 rw[pi j];unfold mH;cases P:(t.s.toList == [36,46])
 ·simp only[Bool.false_eq_true,if_false];rw[<-a,<-Rd j];cases y:((t.s.toList == [36,61])&&((d.XS==5) && !d.XC))
  ·have G:¬((t.s.toList == [36,61])=true/\(d.XS==5)=true/\d.XC=false):=fun h=>by
    rw[h.1,h.2.1,h.2.2]at y;cases y
   simp only[Bool.false_eq_true,if_false];rw[To G,iO];cases N:dC t.s
   ·have c:cd t.s=false:=by
     cases K:cd t.s
     ·rfl
     ·have:=(ly K).1;rw[iO,N]at this;cases this
    have L:(t.s.toList == [36,61])=false:=by
     cases K:(t.s.toList == [36,61])
     ·rfl
     ·have e:=Gx (dr K);rw[iO,N]at e;exact absurd e (by decide +kernel)
    simp only[Bool.false_eq_true,if_false];cases z:d.XC
    ·have D:=k z;simp only[Bool.false_eq_true,if_false];have Q:=Mz I j D (fun h=>by rw[r,To (by rw[h];simp),TV]) t.s;rw[Q];have g:aK (f++[t.s]) ⟨#[36,61]⟩=false:=by
      rw[xK,sN,<-a,z,o,L];rfl
     cases H:(bi d t.s==0)
     ·simp only[Bool.false_eq_true,if_false];exact⟨trivial,fun h=>by rw[h]at H;cases H⟩
     ·rw[Tq rfl];refine⟨by simpa using H,fun _=>BZ E u I C b B j A r x c rfl rfl rfl rfl rfl rfl rfl g.symm ?_ (fun h=>Bool.noConfusion h)⟩;rw[tY _ g];simp only;rw[D]
    ·have O:aK f ⟨#[36,61]⟩=true:=(by rw[<-a];exact z);rw[Tq rfl,Tq rfl];exact⟨rfl,fun _=>BZ E u I C b B j A r x c rfl rfl rfl rfl rfl rfl rfl (by rw[xK,O,Vn]) (by rw[Oj _ _ O];exact i) (fun _=>m z)⟩
   ·rw[Tq rfl,Tq rfl];exact⟨rfl,fun h=>by cases h⟩
  ·simp only[Bool.and_eq_true,Bool.not_eq_true']at y;obtain⟨v,M,F⟩:=y;have D:=k F;rw[Tq rfl,Tq (show(t.s.toList == [36,61])=true/\(d.XS==5)=true/\d.XC=false from⟨v,M,F⟩)];unfold cv;rw[D];by_cases n:f.length=0
   ·rw[Tq n,Tq n];exact⟨rfl,fun h=>by cases h⟩
   ·rw[To n,To n];have c:cd t.s=false:=(by rw[(jV (dr v)).2.2];decide);have J:aK f ⟨#[36,61]⟩=false:=(by rw[<-a];exact F);have g:aK (f++[t.s]) ⟨#[36,61]⟩=true:=(by rw[xK,sN,o,v,Wv]);refine⟨rfl,fun _=>BZ E u I C b B j A r x c rfl rfl rfl rfl rfl rfl rfl g.symm ?_ (fun _=>⟨by simpa using M,?_⟩)⟩
    ·have q:=MZ f J;rw[List.takeWhile_append_of_pos q,Vs (by unfold jy;rw[v];simp),TV]
    ·simp only;intro e;rw[e]at n;exact n rfl
 ·rw[Tq rfl,Tq rfl];obtain⟨R,S⟩:=QX j a i m p;refine⟨R,fun h=>?_⟩;obtain⟨U,V⟩:=S h;exact Gv E u I C b B j A i m r x P p V k U
theorem qA(a:(l.toList == [36,123])=false)(b:(l.toList == [36,125])=false)(o:Int):aR o l=o:=by
 unfold aR;rw[a,b];rfl
theorem Be(h:dC l=false)(o:Int):aR o l=o:=by
 have a:cd l=false:=by
  cases b:cd l
  ·rfl
  ·have:=(ly b).1;rw[iO,h]at this;cases this
 unfold cd at a;simp only[Bool.or_eq_false_iff]at a;exact qA a.1.2 a.2 o
theorem xp(d:Db)(p:Pl):(aX d p).XV=d.XV:=by
 unfold aX eD nF nW;split
 ·rfl
 ·split
  ·rfl
  ·split <;> rfl
theorem Eo(o:uK T d)(x:Xs)(p:Pl)(h:(aZ d x p).1=0):((aZ d x p).2.XV.length:Int)=aR (d.XV.length:Int) x:=by
 rcases o with ⟨u,i,g,f,n⟩ | ⟨u,i,g,f,n,y,w⟩ | ⟨C,m,B,i,v,a,t,F,f,g,z,n,E⟩
 ·have e:aZ d x p=ay d x:=by unfold aZ;rw[i];rfl
  rw[e]at h ⊢;cases b:(x.toList == [36,123])
  ·cases c:(x.toList == [36,125])
   ·rw[qA b c];unfold ay bU;rw[b,c,To (by simp),To (by simp)]
    repeat' split
    all_goals rfl
   ·have j:ay d x=(match d.XV.getLast? with | none=>(9,d) | some p=>(0,cQ d p)):=by
     unfold ay;rw[b,c,To (by simp),Tq rfl];rfl
    rw[j]at h ⊢;cases k:d.XV.getLast? with
    | none=>rw[k]at h;cases h
    | some q =>
     have r:0<d.XV.length:=by
      rw[Wh];intro e;rw[e]at k;cases k
     have s:(cQ d q).XV=d.XV.dropLast:=by
      unfold cQ dw;split <;> rfl
     simp only;rw[s,sJ (dr c),Vj]
     show((d.XV.length-1:Nat):Int)=(d.XV.length:Int)-1
     omega
  ·have j:ay d x=(0,{ d with XV:=d.XV++[(d.XH.length,d.XK.length)],rbl:=d.rbl++[d.XP.length] }):=by
    unfold ay;rw[b,Tq rfl]
   rw[j,sJ (dr b)];simp only[List.length_append,List.length_cons,List.length_nil]
   show((d.XV.length+(0+1):Nat):Int)=(d.XV.length:Int)+1
   omega
 ·have e:aZ d x p=aJ d x:=by unfold aZ;rw[i];rfl
  rw[e]at h ⊢;have A:aR (d.XV.length:Int) x=(d.XV.length:Int):=by
   refine qA ?_ ?_ _
   ·cases a:(x.toList == [36,123])
    ·rfl
    ·exfalso
     unfold aJ at h;rw[cG a,cG a,cG a,cG a,To (by decide),To (by decide),To (by decide),To (by decide)]at h;cases h
   ·cases a:(x.toList == [36,125])
    ·rfl
    ·exfalso
     unfold aJ at h;rw[cG a,cG a,cG a,cG a,To (by decide),To (by decide),To (by decide),To (by decide)]at h;cases h
  rw[A];unfold aJ
  repeat' split
  all_goals rfl
 ·rw[pi t]at h ⊢;cases b:(x.toList == [36,46])
  ·rw[b,To (by simp)]at h;rw[To (by simp)];by_cases c:(x.toList == [36,61])=true/\(d.XS==5)=true/\d.XC=false
   ·rw[Tq c,qA (by rw[cG c.1];decide) (by rw[cG c.1];decide)];unfold cv;split <;> rfl
   ·rw[To c]at h ⊢;cases l:dC x
    ·rw[Be l,To (by simp)]
     repeat' split
     all_goals rfl
    ·rw[l,Tq rfl]at h;cases h
  ·rw[Tq rfl,qA (by rw[cG b];decide) (by rw[cG b];decide)];unfold mt;split
   ·rfl
   ·split
    ·rfl
    ·simp only;rw[xp]
end
def kE(S:List Sm)(j:Nat):Bool:=((aq S j).k.toList == [36,100])||((aq S j).k.toList == [36,102])||((aq S j).k.toList == [36,101])||((aq S j).k.toList == [36,97])||((aq S j).k.toList == [36,112])
def lE(S:List Sm):Xv:=(List.range S.length).filter (kE S)
def aw(S:List Sm)(n:Nat):Nat:=(lE S).getD n S.length
theorem Nd(j:Nat)(a:j<v.length):kE (v++[L]) j=kE v j:=by
 unfold kE;rw[jI v [L] j a]
theorem nB:lE (v++[L])=lE v++(if kE (v++[L]) v.length=true then [v.length] else []):=by
 unfold lE;rw[cN,UT,UH,gj (fun j a=>Nd v L j a)];congr 1;cases h:kE (v++[L]) v.length <;> simp[h]
theorem Qb(h:(lE b)[w]?=some i):i<b.length:=by
 have:=UZ h;exact TF.1 (Uj.1 this).1
theorem Qa(h:w<(lE b).length):aw b w<b.length:=by
 have e:(lE b)[w]?=some (aw b w):=by unfold aw;rw[Tn,Tm h];rfl
 exact Qb e
theorem NK:aw v (lE v).length=v.length:=by
 unfold aw;rw[Tn,Um (Tp _)];rfl
theorem NJ(h:w<(lE b).length):aw (b++[I]) w=aw b w:=by
 unfold aw;rw[nB,Tn,Tn,TP h,Tm h];rfl
theorem f9{S:List Sm}{n a:Nat}(h:n<a)(b:a<(lE S).length):aw S n<aw S a:=by
 have c:(lE S).Pairwise (· < ·):=WJ _ VZ;have:=VN.1 c n a (by omega) b h;unfold aw;rw[Tn,Tn,Tm b,Tm (by omega)];exact this
theorem tE(a:w<=i)(c:i<=b.length):aO (b++[I]) w i=aO b w i:=by
 unfold aO;rw[UB (by omega),UV (by rw[Uw];omega)]
theorem rr(a:w<=b.length):bt (b++[I]) w=bt b w:=by
 unfold bt;rw[UV a]
theorem Hg(a:w<=b.length):aO (b++[I]) w (b.length+1)=(aO b w b.length&&decide (bt b w<=aR (bt b b.length) I.k)):=by
 rw[oN (b++[I]) w b.length a (by rw[cN];omega),tE a (Tp _),rr a,iK]
theorem AN(a:w<=b.length)(h:aO b w b.length=true):bt b w<=bt b b.length:=AQ b w b.length a (Tp _) h b.length a (Tp _)
theorem oM(a:w<=b.length)(c:∀o,o<=aR o I.k):aO (b++[I]) w (b.length+1)=aO b w b.length:=by
 rw[Hg a];cases h:aO b w b.length
 ·rfl
 ·have:=AN a h;have:=c (bt b b.length);simp;omega
structure oq(S:List Sm)(l:List St)(rb:Xv):Prop where
 len:l.length=(lE S).length
 til:∀(n:Nat) (s:St),l[n]?=some s->oA s.XS=false->∀a,n<a->a<=l.length->(s.til==0||decide (a<s.til))=aO S (aw S n) (aw S a)
 le:∀(n:Nat) (s:St),l[n]?=some s->s.til<=l.length
 dep:bt S S.length=(rb.length:Int)
 rbl:∀i,i<rb.length->rb.getD i 0<=l.length/\∀n,n<l.length->aO S (aw S n) S.length=true->(rb.getD i 0<=n ↔ (i:Int)<bt S (aw S n))
theorem oq.nil:oq [] [] []:=⟨rfl,(fun n s h=>by cases h),(fun n s h=>by cases h),rfl,fun i h=>by cases h⟩
theorem oq.at_(h:oq b H x)(a:w<H.length):aw b w<b.length:=Qa (by rw[<-h.len];exact a)
theorem oq.ix(h:oq b H x)(s:Sm)(a:w<H.length):aw (b++[s]) w=aw b w:=NJ (by rw[<-h.len];exact a)
theorem oq.ixEnd(h:oq b H x):aw b H.length=b.length:=by rw[h.len];exact NK b
theorem oq.now(h:oq b H x)(a:H[w]?=some k)(c:oA k.XS=false):(k.til==0)=aO b (aw b w) b.length:=by
 have d:=(Tz.1 a).1;have:=h.til w k a c H.length d (Tp _);rw[h.ixEnd]at this;rw[<-this];have:=h.le w k a;rw[UX (by omega),Vc]
theorem oq.other(h:oq b H x)(s:Sm)(G:kE (b++[s]) b.length=false)(u:∀o,o<=aR o s.k)(f:Xv)(F:aR (bt b b.length) s.k=f.length)(E:f=x∨f=x++[H.length]):oq (b++[s]) H f:=by
 have e:lE (b++[s])=lE b:=by rw[nB,To (by rw[G];simp),TV]
 have A:aw (b++[s]) H.length=b.length+1:=by
  unfold aw;rw[e,Tn,Um (by rw[h.len];exact Tp _)];exact cN b s
 refine⟨by rw[e];exact h.len,fun n t v y a g l=>?_,h.le,by rw[cN,iK];exact F,fun i j=>?_⟩
 ·have d:=(Tz.1 v).1;have m:=h.at_ d;rw[h.ix s d];by_cases B:a=H.length
  ·subst B;rw[A,oM (by omega) u,h.til n t v y _ g l,h.ixEnd]
  ·have c:a<H.length:=(by omega);have:=h.at_ c;have r:aw b n<=aw b a:=UA (f9 g (by rw[<-h.len];exact c));rw[h.ix s c,tE r (by omega)];exact h.til n t v y a g l
 ·rw[cN];have p:∀i,i<x.length->x.getD i 0<=H.length/\∀n,n<H.length->aO (b++[s]) (aw (b++[s]) n) (b.length+1)=true->(x.getD i 0<=n ↔ (i:Int)<bt (b++[s]) (aw (b++[s]) n)):=fun i j=>by
   obtain⟨C,D⟩:=h.rbl i j;refine⟨C,fun n d c=>?_⟩;have m:=h.at_ d;rw[h.ix s d]at c ⊢;rw[oM (by omega) u]at c;rw[rr (by omega)];exact D n d c
  rcases E with rfl | rfl
  ·exact p i j
  ·rw[Tu]at j;replace j:i<x.length+1:=j;by_cases w:i<x.length
   ·have q:(x++[H.length]).getD i 0=x.getD i 0:=(by rw[Tn,Tn,TP w]);rw[q];exact p i w
   ·have q:i=x.length:=(by omega);subst q;have z:(x++[H.length]).getD x.length 0=H.length:=by rw[Tn,TI (Tp _),Uy];rfl
    rw[z];refine⟨Tp _,fun n d c=>?_⟩;have m:=h.at_ d;rw[h.ix s d]at c ⊢;rw[oM (by omega) u]at c;rw[rr (by omega)];have:=AN (by omega) c;have:=h.dep;omega
theorem oq.XQ(h:oq b H x)(s:Sm)(K:kE (b++[s]) b.length=true)(B:∀o,aR o s.k=o)(t:St)(L:t.til=0):oq (b++[s]) (H++[t]) x:=by
 have d:∀o,o<=aR o s.k:=fun o=>by rw[B o];exact Wa _
 have e:lE (b++[s])=lE b++[b.length]:=by rw[nB,Tq K]
 have m:(H++[t]).length=H.length+1:=by rw[Tu];rfl
 have q:aw (b++[s]) H.length=b.length:=by
  unfold aw;rw[e,h.len,Tn,TI (Tp _),Uy];rfl
 have A:aw (b++[s]) (H.length+1)=b.length+1:=by
  unfold aw;rw[e,Tn,Um (by rw[Tu,h.len];exact Tp _)];exact cN b s
 have f:aO (b++[s]) b.length (b.length+1)=true:=by
  rw[oM (Tp _) d];exact CA b b.length
 refine⟨by rw[m,e,Tu,h.len];rfl,fun n u c w a l v=>?_,fun n u c=>?_,by rw[cN,iK,B];exact h.dep,fun i J=>?_⟩
 ·rw[m]at v;by_cases g:n<H.length
  ·rw[TP g]at c;have z:=h.at_ g;have M:=h.le n u c;rw[h.ix s g];by_cases j:a<H.length
   ·have:=h.at_ j;have y:aw b n<=aw b a:=UA (f9 l (by rw[<-h.len];exact j));rw[h.ix s j,tE y (by omega)];exact h.til n u c w a l (by omega)
   ·by_cases D:a=H.length
    ·subst D;rw[q,tE (by omega) (Tp _),<-h.now c w,UX (by omega),Vc]
    ·have E:a=H.length+1:=(by omega);subst E;rw[A,oM (by omega) d,<-h.now c w,UX (by omega),Vc]
  ·have F:n=H.length:=(by omega);have j:a=H.length+1:=(by omega);subst F j;rw[TI (Tp _),Uy]at c;cases c
   rw[q,A,f,L];rfl
 ·rw[m];by_cases g:n<H.length
  ·rw[TP g]at c;have:=h.le n u c;omega
  ·have:=(Tz.1 c).1;rw[m]at this;rw[TI (by omega),show n-H.length=0 by omega]at c;cases c
   omega
 ·obtain⟨G,I⟩:=h.rbl i J;rw[m,cN];refine⟨by omega,fun n g r=>?_⟩;by_cases p:n<H.length
  ·have z:=h.at_ p;rw[h.ix s p]at r ⊢;rw[oM (by omega) d]at r;rw[rr (by omega)];exact I n p r
  ·have C:n=H.length:=(by omega);subst C;rw[q,rr (Tp _),h.dep];constructor
   ·intro _;omega
   ·intro _;exact G
theorem oQ(h:(kD H w)[i]?=some k):∃v,H[i]?=some v/\k=(if w<=i/\i<H.length then lJ H.length v else v):=by
 unfold kD at h;rw[nt]at h;cases e:H[i]? with
 | none=>rw[e]at h;cases h
 | some v=>rw[e]at h;simp only[Option.map_some,Option.some.injEq]at h;exact⟨v,rfl,h.symm⟩
theorem oq.pop(h:oq b H (x++[w]))(s:Sm)(R:kE (b++[s]) b.length=false)(J:∀o,aR o s.k=o-1):oq (b++[s]) (kD H w) x:=by
 have e:lE (b++[s])=lE b:=by rw[nB,To (by rw[R];simp),TV]
 have t:(kD H w).length=H.length:=kP H w H.length;have N:aw (b++[s]) H.length=b.length+1:=by
  unfold aw;rw[e,Tn,Um (by rw[h.len];exact Tp _)];exact cN b s
 have P:bt b b.length=(x.length:Int)+1:=by rw[h.dep,Tu];rfl
 obtain⟨B,l⟩:=h.rbl x.length (by rw[Tu];exact Nat.lt_succ_self _);have M:(x++[w]).getD x.length 0=w:=by rw[Tn,TI (Tp _),Uy];rfl
 rw[M]at B l;have K:∀n,n<H.length->aO (b++[s]) (aw b n) (b.length+1)=(aO b (aw b n) b.length&&decide (n<w)):=fun n d=>by
  have p:=h.at_ d;rw[Hg (by omega)];cases g:aO b (aw b n) b.length
  ·rfl
  ·have q:=l n d g;have:=AN (by omega) g;rw[J,U5,U5];by_cases c:n<w
   ·rw[UQ c];exact UQ (by omega)
   ·rw[UX c];exact UX (by omega)
 refine⟨by rw[t,e];exact h.len,fun n u D m a r A=>?_,fun n u D=>?_,by rw[cN,iK,J,P];omega,fun i I=>?_⟩
 ·obtain⟨v,j,rfl⟩:=oQ D;have d:=(Tz.1 j).1;have p:=h.at_ d;rw[t]at A;have f:oA v.XS=false:=by
   split at m
   ·unfold lJ at m;split at m <;> exact m
   ·exact m
  have E:=h.now j f;rw[h.ix s d];have Q:=h.le n v j;by_cases y:a<H.length
  ·have:=h.at_ y;have C:aw b n<=aw b a:=UA (f9 r (by rw[<-h.len];exact y));rw[h.ix s y,tE C (by omega),<-h.til n v j f a r (by omega)];split
   ·unfold lJ;split
    ·next c=>rw[c.1];simp;omega
    ·rfl
   ·rfl
  ·have O:a=H.length:=(by omega);subst O;rw[N,K n d,<-E];by_cases c:w<=n
   ·rw[Tq ⟨c,d⟩,UX (show ¬n<w by omega),Bool.and_false];unfold lJ;by_cases z:v.til=0
    ·rw[Tq ⟨z,f⟩]
     show(H.length==0||decide (H.length<H.length))=false
     rw[TT.2 (show H.length≠0 by omega),UX (Nat.lt_irrefl _)];rfl
    ·rw[To (fun q=>z q.1)];have:(v.til==0)=false:=TT.2 z;rw[this,UX (show ¬H.length<v.til by omega)];rfl
   ·rw[To (fun q=>c q.1),UQ (show n<w by omega),Bool.and_true,UX (show ¬H.length<v.til by omega),Vc]
 ·obtain⟨v,j,rfl⟩:=oQ D;have:=h.le n v j;rw[t];split
  ·unfold lJ;split
   ·exact Tp _
   ·exact this
  ·exact this
 ·obtain⟨F,G⟩:=h.rbl i (by rw[Tu];exact Nat.lt_succ_of_lt I);have L:(x++[w]).getD i 0=x.getD i 0:=by rw[Tn,Tn,TP I]
  rw[L]at F G;rw[t,cN];refine⟨F,fun n d g=>?_⟩;have p:=h.at_ d;rw[h.ix s d]at g ⊢;rw[K n d,TM]at g;rw[rr (by omega)];exact G n d g.1
def Pt(k:Int):Bool:=decide (2<=k/\k<=6)
structure gy(T:List Tk)(d:Db):Prop where
 hel:oq (aa T) d.XP d.rbl
 ct:∀(n:Nat) (s:St),d.XP[n]?=some s->fm (aq (aa T) (aw (aa T) n)).k.toList s.XS/\s.XU=bR T (aq (aa T) (aw (aa T) n))/\s.Xy=bB T (aq (aa T) (aw (aa T) n)).h/\dU T (aq (aa T) (aw (aa T) n)).h
 lab:d.XU=if Pt d.XS=true then tS T (fA T) else⟨#[]⟩
section
variable {T:List Tk} {t:Tk} {d d':Db}
theorem t7:kE (v++[L]) v.length=(((L.k.toList == [36,100])||(L.k.toList == [36,102])||(L.k.toList == [36,101])||(L.k.toList == [36,97])||(L.k.toList == [36,112]))):=by
 unfold kE;rw[lu]
theorem gy.old(R:gy T d)(q:iY T (aa T) (aa T).length){M:List Sm}{b:St}(o:w<d.XP.length)(p:d.XP[w]?=some k)(e:aw (aa T++M) w=aw (aa T) w)(g:b.XS=k.XS)(i:b.XU=k.XU)(j:b.Xy=k.Xy) :
  fm (aq (aa T++M) (aw (aa T++M) w)).k.toList b.XS/\b.XU=bR (T++[t]) (aq (aa T++M) (aw (aa T++M) w))/\b.Xy=bB (T++[t]) (aq (aa T++M) (aw (aa T++M) w)).h/\dU (T++[t]) (aq (aa T++M) (aw (aa T++M) w)).h:=by
 obtain⟨l,m,n,f⟩:=R.ct w k p;have c:=R.hel.at_ o;rw[e,jI _ _ _ c,g,i,j];refine⟨l,?_,?_,Lq T [t] _ f⟩
 ·rw[m];unfold bR;rw[fX T [t] _ (q.a _ c)]
 ·rw[n,qx T [t] _ f]
theorem gy.XD(R:gy T d)(k:iY T (aa T) (aa T).length)(i:cd t.s=false)(c:d'.XP=d.XP)(f:d'.rbl=d.rbl)(g:d'.XU=if Pt d'.XS=true then tS (T++[t]) (fA T) else⟨#[]⟩):gy (T++[t]) d':=by
 obtain⟨b,e⟩:=lW (T:=T) (t:=t) i;refine⟨by rw[b,c,f];exact R.hel,fun n s a=>?_,by rw[e];exact g⟩;rw[c]at a;have j:=(Tz.1 a).1;rw[b];have:=R.old (t:=t) k (M:=[]) j a (by rw[TV]) rfl rfl rfl;rw[TV]at this;exact this
theorem gy.other(R:gy T d)(p:iY T (aa T) (aa T).length)(s:Sm)(c:aa (T++[t])=aa T++[s])(l:kE (aa T++[s]) (aa T).length=false)(m:∀o,o<=aR o s.k)(j:aR (bt (aa T) (aa T).length) s.k=(d'.rbl.length:Int))(i:d'.rbl=d.rbl∨d'.rbl=d.rbl++[d.XP.length])(b:d'.XP=d.XP)(f:d'.XU=⟨#[]⟩)(g:d'.XS=0):gy (T++[t]) d':=by
 refine⟨by rw[c,b];exact R.hel.other s l m d'.rbl j i,fun n u a=>?_,by rw[f,g];rfl⟩;rw[b]at a;have e:=(Tz.1 a).1;rw[c];exact R.old p e a (R.hel.ix s e) rfl rfl rfl
theorem gy.XQ(R:gy T d)(z:iY T (aa T) (aa T).length)(s:Sm)(f:aa (T++[t])=aa T++[s])(g:kE (aa T++[s]) (aa T).length=true)(x:∀o,aR o s.k=o)(u:St)(y:u.til=0)(p:fm s.k.toList u.XS)(w:u.XU=bR (T++[t]) s)(q:u.Xy=bB (T++[t]) s.h)(r:dU (T++[t]) s.h)(c:d'.XP=d.XP++[u])(i:d'.rbl=d.rbl)(j:d'.XU=⟨#[]⟩)(l:d'.XS=0):gy (T++[t]) d':=by
 refine⟨by rw[f,c,i];exact R.hel.XQ s g x u y,fun n v a=>?_,by rw[j,l];rfl⟩;rw[c]at a;rw[f];by_cases b:n<d.XP.length
 ·rw[TP b]at a;exact R.old z b a (R.hel.ix s b) rfl rfl rfl
 ·have e:n=d.XP.length:=by
   have:=(Tz.1 a).1;rw[Tu]at this;have:n<d.XP.length+1:=this;omega
  subst e;rw[TI (Tp _),Uy]at a;cases a
  have m:aw (aa T++[s]) d.XP.length=(aa T).length:=by
   unfold aw;rw[nB,Tq g,R.hel.len,Tn,TI (Tp _),Uy];rfl
  rw[m,lu];exact⟨p,w,q,r⟩
theorem gy.pop(R:gy T d)(y:iY T (aa T) (aa T).length)(s:Sm)(b:aa (T++[t])=aa T++[s])(m:kE (aa T++[s]) (aa T).length=false)(p:∀o,aR o s.k=o-1)(g:d.rbl=x++[w])(a:d'.XP=kD d.XP w)(i:d'.rbl=x)(j:d'.XU=⟨#[]⟩)(l:d'.XS=0):gy (T++[t]) d':=by
 have h:=R.hel;rw[g]at h;refine⟨by rw[b,a,i];exact h.pop s m p,fun n u e=>?_,by rw[j,l];rfl⟩;rw[a]at e;obtain⟨v,f,r⟩:=oQ e;have c:=(Tz.1 f).1;have q:u.XS=v.XS/\u.XU=v.XU/\u.Xy=v.Xy:=by
  rw[r];split
  ·unfold lJ;split <;> exact⟨rfl,rfl,rfl⟩
  ·exact⟨rfl,rfl,rfl⟩
 rw[b];exact R.old y c f (R.hel.ix s c) q.1 q.2.1 q.2.2
end
section
variable {T:List Tk} {t:Tk} {d:Db}
theorem rt(h:dC l=false):cd l=false:=by
 cases a:cd l
 ·rfl
 ·have:=(ly a).1;rw[iO,h]at this;cases this
theorem fO(h:(l.toList==o)=true)(a:((o == [36,46])||(o == [36,123])||(o == [36,125]))=false):cd l=false:=by
 rw[(jV (dr h)).2.2];exact a
theorem gy.first(R:gy T d)(b:iY T (aa T) (aa T).length)(A:bt (aa T) (aa T).length=(d.XV.length:Int))(p:fA T=T.length)(u:d.XS=0)(a:(ay d t.s).1=0):gy (T++[t]) (ay d t.s).2:=by
 have g:d.XU=⟨#[]⟩:=by rw[R.lab,u];rfl
 unfold ay at *;by_cases c:(t.s.toList == [36,123])=true
 ·rw[Tq c];obtain⟨k,-⟩:=nz (T:=T) (t:=t) p (by rw[(jV (dr c)).2.2];decide);have i:∀o,aR o t.s=o+1:=fun o=>by rw[sJ (dr c)];rfl
  refine R.other b _ k (by rw[t7];simp only;rw[dr c];decide) (fun o=>by show o<=aR o t.s;rw[i];omega) ?_ (TA rfl) rfl g u;show aR _ t.s=_;rw[i,R.hel.dep];simp only[List.length_append,List.length_cons,List.length_nil];omega
 rw[To c]at a ⊢;by_cases f:(t.s.toList == [36,125])=true
 ·rw[Tq f]at a ⊢;cases r:d.XV.getLast? with
  | none=>rw[r]at a;cases a
  | some q =>
   simp only;obtain⟨k,-⟩:=nz (T:=T) (t:=t) p (by rw[(jV (dr f)).2.2];decide);have i:∀o,aR o t.s=o-1:=fun o=>by rw[sJ (dr f)];rfl
   have j:d.rbl≠[]:=by
    intro e;have:=R.hel.dep;rw[A,e]at this;have:d.XV=[]:=Ue (by simpa using this);rw[this]at r;cases r
   have x:d.rbl=d.rbl.dropLast++[d.rbl.getLast j]:=(V4 j).symm;have y:d.rbl.getLast?=some (d.rbl.getLast j):=VB j;unfold cQ;rw[y];exact R.pop b _ k (by rw[t7];simp only;rw[dr f];decide) (fun o=>i o) x rfl rfl g u
 rw[To f]at a ⊢;by_cases l:(t.s.toList == [36,99])=true
 ·rw[Tq l]at a ⊢;by_cases w:0<d.XV.length
  ·rw[Tq w]at a;cases a
  ·rw[To w];exact R.XD b (fO l (by decide)) rfl rfl g
 rw[To l]at a ⊢;by_cases m:(t.s.toList == [36,118])=true
 ·rw[Tq m];exact R.XD b (fO m (by decide)) rfl rfl g
 rw[To m]at a ⊢;by_cases n:(t.s.toList == [36,100])=true
 ·rw[Tq n];exact R.XD b (fO n (by decide)) rfl rfl g
 rw[To n]at a ⊢;split at a
 ·cases a
 ·next z =>
  rw[To z];unfold bU at *;cases v:dC t.s
  ·rw[v,To (by simp)]at a;split at a
   ·cases a
   ·next B =>
    split at a
    ·cases a
    ·next C =>
     rw[To (by simp),To B,To C];exact R.XD b (rt v) rfl rfl (by show t.s=tS (T++[t]) (fA T);rw[p,oj])
  ·rw[v,Tq rfl]at a;cases a
theorem gy.key(R:gy T d)(c:iY T (aa T) (aa T).length)(k:fA T+1=T.length)(j:d.XS=6)(a:(aJ d t.s).1=0):gy (T++[t]) (aJ d t.s).2:=by
 have b:d.XU=tS (T++[t]) (fA T):=by rw[R.lab,j,fX T [t] _ (by omega)];rfl
 unfold aJ at *;split
 ·next h=>exact R.XD c (fO h (by decide)) rfl rfl b
 ·next e =>
  rw[To e]at a;split
  ·next h=>exact R.XD c (fO h (by decide)) rfl rfl b
  ·next f =>
   rw[To f]at a;split
   ·next h=>exact R.XD c (fO h (by decide)) rfl rfl b
   ·next g =>
    rw[To g]at a;split
    ·next h=>exact R.XD c (fO h (by decide)) rfl rfl b
    ·next i=>rw[To i]at a;cases a
theorem Dn(h:fm o D):((o == [36,100])||(o == [36,102])||(o == [36,101])||(o == [36,97])||(o == [36,112]))=!((D==7)||(D==8)):=by
 (rcases h with ⟨rfl,rfl⟩ | ⟨rfl,rfl⟩ | ⟨rfl,rfl⟩ | ⟨rfl,rfl⟩ | ⟨rfl,rfl⟩ | ⟨rfl,rfl⟩ | ⟨rfl,rfl⟩) <;> decide
theorem Nf(h:fm l.toList D):(aA l||aH l)=Pt D:=by
 have e:=jV (k:=l) rfl;rw[e.1,e.2.1];generalize l.toList=a at h
 (rcases h with ⟨rfl,rfl⟩ | ⟨rfl,rfl⟩ | ⟨rfl,rfl⟩ | ⟨rfl,rfl⟩ | ⟨rfl,rfl⟩ | ⟨rfl,rfl⟩ | ⟨rfl,rfl⟩) <;> decide
theorem gy.body(R:gy T d)(r:iY T (aa T) (aa T).length)(H:ee T (fA T)=(l,w))(B:fA T<w)(A:w<=T.length)(m:fm l.toList d.XS)(F:eF T w T.length=f)(D:d.Xy=f.takeWhile jy)(p:Pl)(b:(aZ d t.s p).1=0):gy (T++[t]) (aZ d t.s p).2:=by
 have y:d.XU=if Pt d.XS=true then tS (T++[t]) (fA T) else⟨#[]⟩:=by rw[R.lab,fX T [t] _ (by omega)]
 rw[pi m]at *;by_cases n:(t.s.toList == [36,46])=true
 ·rw[Tq n]at *;obtain⟨G,-⟩:=Bx n;obtain⟨v,-⟩:=nU T t;rw[Tq G,oV H B A m]at v;simp only at v;have i:bB (T++[t]) w=d.Xy:=by
   unfold bB;rw[UB A,tI _ t (fun u I=>?_) n,D,<-F,ma];have:=vo T w (by omega) u I;unfold cd at this;simp only[Bool.or_eq_false_iff]at this;exact this.1.1
  have C:dU (T++[t]) w:=⟨T.length,A,by simp,by rw[oj];unfold nV;rw[n];simp⟩;have c:=m.dep.1;have e:kE (aa T++[(⟨fA T,T.length+1,w,l⟩:Sm)]) (aa T).length=!((d.XS==7)||(d.XS==8)):=by rw[t7];exact Dn m
  unfold mt at *;split at b
  ·cases b
  ·next E =>
   rw[To E];split at b
   ·cases b
   ·next k =>
    rw[To k];simp only;cases a:((d.XS==7)||(d.XS==8))
    ·rw[a]at e;simp only[Bool.or_eq_false_iff]at a;have j:(aX d p).XP=d.XP++[⟨d.XS,d.XU,d.Xy,d.XJ,p,0⟩]/\(aX d p).rbl=d.rbl:=by
      unfold aX nF nW;rw[a.1,a.2];simp only[Bool.false_eq_true,if_false];split <;> exact⟨rfl,rfl⟩
     refine R.XQ r _ v e (fun o=>c o) ⟨d.XS,d.XU,d.Xy,d.XJ,p,0⟩ rfl m ?_ i.symm C j.1 j.2 rfl rfl;show d.XU=bR (T++[t]) ⟨fA T,T.length+1,w,l⟩;unfold bR;simp only;rw[Nf m];exact y
    ·rw[a]at e;have j:(aX d p).XP=d.XP/\(aX d p).rbl=d.rbl:=by
      unfold aX eD;rw[Uk]at a;split
      ·exact⟨rfl,rfl⟩
      ·next q =>
       rw[Tq (a.resolve_left q)];exact⟨rfl,rfl⟩
     refine R.other r _ v e (fun o=>by show o<=aR o l;rw[c];exact Wa _) ?_ (TG j.2) j.1 rfl rfl;show aR _ l=_;rw[c,R.hel.dep];show _=((aX d p).rbl.length:Int)
     rw[j.2]
 ·rw[To n]at *;by_cases z:(t.s.toList == [36,61])=true/\(d.XS==5)=true/\d.XC=false
  ·rw[Tq z]at *;unfold cv at *;split at b
   ·cases b
   ·next g=>rw[To g];exact R.XD r (fO z.1 (by decide)) rfl rfl y
  ·rw[To z]at *;cases x:dC t.s
   ·rw[x,To (by simp)]at b;rw[To (by simp)];split at b
    ·next g=>rw[Tq g];exact R.XD r (rt x) rfl rfl y
    ·next g =>
     rw[To g];split at b
     ·next k=>rw[Tq k];exact R.XD r (rt x) rfl rfl y
     ·next k=>simp only at b;rw[b]at k;exact absurd rfl k
   ·rw[x,Tq rfl]at b;cases b
theorem gy.step(o:uK T d)(n:tx T (aa T) d)(q:∀j,j<T.length->aY T (aa T) j=0)(R:gy T d)(v:T.length<=100000)(p:Pl)(c:(aZ d t.s p).1=0):gy (T++[t]) (aZ d t.s p).2:=by
 obtain⟨k,-⟩:=BD T v q;rcases o with ⟨g,a,b,f,m⟩ | ⟨g,a,b,f,m,y,x⟩ | ⟨A,l,B,a,i,w,u,r,f,b,z,m,C⟩
 ·have e:aZ d t.s p=ay d t.s:=by unfold aZ;rw[a];rfl
  rw[e]at c ⊢;exact R.first k (CV n) g a c
 ·have e:aZ d t.s p=aJ d t.s:=by unfold aZ;rw[a];rfl
  rw[e]at c ⊢;exact R.key k g a c
 ·exact R.body k a i w u r b p c
end
theorem cm(h:fm o D):(D==3)=(o == [36,101])/\(D==2)=(o == [36,102])/\(D==1)=(o == [36,100])/\oA D=((o == [36,97])||(o == [36,112])):=by
 (rcases h with ⟨rfl,rfl⟩ | ⟨rfl,rfl⟩ | ⟨rfl,rfl⟩ | ⟨rfl,rfl⟩ | ⟨rfl,rfl⟩ | ⟨rfl,rfl⟩ | ⟨rfl,rfl⟩) <;> decide
theorem un:lE v=(List.range (lE v).length).map (aw v):=by
 apply Vp;intro n;rw[T0];by_cases h:n<(lE v).length
 ·rw[Vf h,Tm h];show _=some (aw v n);unfold aw;rw[Tn,Tm h];rfl
 ·rw[Um (by omega),Um (by rw[U7];omega)];rfl
theorem rE{m:Nat}(d:m=(lE b).length){p q:Nat->Bool}(f:∀j,j<b.length->p j=true->kE b j=true)(g:∀n,n<m->q n=p (aw b n)):((List.range m).filter q).map (aw b)=(List.range b.length).filter p:=by
 have a:(List.range b.length).filter p=(lE b).filter p:=by
  unfold lE;rw[WX];apply gj;intro j c;cases h:p j
  ·rfl
  ·rw[f j c h];rfl
 rw[a,un b,<-d,List.filter_map];congr 1;apply gj;intro n e;exact g n e
theorem pB{n:Nat}(h:w<=n)(p:Nat->Bool):(List.range n).filter (fun j=>decide (j<w)&&p j)=(List.range w).filter p:=by
 have e:List.range n=List.range w++(List.range (n-w)).map (w + ·):=by
  have:=@List.range_add w (n-w);rwa [show w+(n-w)=n by omega]at this
 have b:(List.range w).filter (fun j=>decide (j<w)&&p j)=(List.range w).filter p:=gj (fun j a=>by rw[UQ a,U5]);have c:((List.range (n-w)).map (w + ·)).filter (fun j=>decide (j<w)&&p j)=[]:=by
  rw[VY];intro j a;obtain⟨i,-,rfl⟩:=UF.1 a;rw[UX (by omega)];simp
 rw[e,UH,b,c,TV]
section
variable {T:List Tk} {d:Db}
theorem gy.held(R:gy T d)(a:d.XP[w]?=some k)(b:oA k.XS=false)(c:i<d.XP.length):fD d.XP w i=(decide (aw (aa T) w<aw (aa T) i)&&aO (aa T) (aw (aa T) w) (aw (aa T) i)):=by
 have g:=(Tz.1 a).1;have f:=R.hel.len;unfold fD;rw[a];simp only;by_cases h:w<i
 ·rw[UQ h,UQ (f9 h (by omega)),R.hel.til w k a b i h (by omega)]
 ·have:¬aw (aa T) w<aw (aa T) i:=by
   by_cases e:w=i
   ·rw[e];omega
   ·have:=f9 (S:=aa T) (n:=i) (a:=w) (by omega) (by omega);omega
  rw[UX h,UX this];rfl
theorem gy.get(R:gy T d)(a:w<d.XP.length):∃s,d.XP[w]?=some s/\fm (aq (aa T) (aw (aa T) w)).k.toList s.XS/\s.XU=bR T (aq (aa T) (aw (aa T) w))/\s.Xy=bB T (aq (aa T) (aw (aa T) w)).h:=by
 refine⟨d.XP[w],Tm a,?_⟩;obtain⟨b,c,e,-⟩:=R.ct w _ (Tm a);exact⟨b,c,e⟩
theorem gy.symsAt(R:gy T d)(a:w<d.XP.length):symsAt d.XP w=bB T (aq (aa T) (aw (aa T) w)).h:=by
 obtain⟨s,b,-,-,h⟩:=R.get a;unfold Go.Proofs.YtnbhnocdhbcbcaaGreat.symsAt;rw[b];exact h
theorem gy.syms(R:gy T d)(b:w<d.XP.length):im d.XP w=uH T (aa T) (aw (aa T) w):=by
 have l:=R.hel.len;have a:=R.hel.at_ b;have f:((List.range d.XP.length).filter (Bg d.XP w)).map (aw (aa T))=(List.range (aw (aa T) w)).filter (yU (aa T) (aw (aa T) w)):=by
  rw[<-pB (UA a)];refine rE l (fun j m h=>?_) (fun n c=>?_)
  ·unfold yU at h;simp only[Bool.and_eq_true]at h;unfold kE;rw[h.2.1];simp
  ·obtain⟨s,i,g,-,-⟩:=R.get c;unfold Bg yU;rw[i];simp only;rw[(cm g).1];cases e:((aq (aa T) (aw (aa T) n)).k.toList == [36,101])
   ·simp
   ·have a:oA s.XS=false:=by
     rw[(cm g).2.2.2,cG e,cG e];decide
    rw[R.held i a b,U5,U5]
 unfold im fz uH kK;rw[R.symsAt b,<-f,List.flatMap_map];congr 1;apply dR;intro n c;exact R.symsAt (TF.1 (Uj.1 c).1)
def RU(T:List Tk)(S:List Sm):Prop:=∀j,j<S.length->((aq S j).k.toList == [36,102])=true->2<=(bB T (aq S j).h).length/\(bB T (aq S j).h).getD 1 ⟨#[]⟩=tS T ((aq S j).h+1)
theorem gy.hyps(R:gy T d)(F:RU T (aa T))(e:w<d.XP.length):(aP d.XP w).map (aw (aa T))=a9 T (aa T) (aw (aa T) w):=by
 have t:=R.hel.len;have b:=R.hel.at_ e;unfold aP eM a9;rw[R.syms e,<-pB (UA b)];refine rE t (fun j x h=>?_) (fun n i=>?_)
 ·unfold tZ at h;simp only[Bool.and_eq_true,Bool.or_eq_true]at h;unfold kE;rcases h.2.2 with h | h
  ·rw[h];simp
  ·rw[h.1];simp
 ·obtain⟨s,f,r,-,g⟩:=R.get i;have q:=R.hel.at_ i;obtain⟨v,l,y,m⟩:=cm r;unfold nK tZ qJ;rw[f];simp only;rw[l];cases a:((aq (aa T) (aw (aa T) n)).k.toList == [36,102])
  ·rw[To (by simp),v];cases c:((aq (aa T) (aw (aa T) n)).k.toList == [36,101])
   ·simp
   ·have b:oA s.XS=false:=(by rw[m,cG c,cG c];decide);rw[R.held f b e];simp
  ·have b:oA s.XS=false:=(by rw[m,cG a,cG a];decide);have c:((aq (aa T) (aw (aa T) n)).k.toList == [36,101])=false:=(by rw[cG a];decide);obtain⟨o,p⟩:=F _ q a;have u:aN s=tS T ((aq (aa T) (aw (aa T) n)).h+1):=by
    unfold aN;rw[Tq ⟨by rw[l];exact a,by rw[g];exact o⟩,g,p]
   rw[Tq rfl,R.held f b e,u,c,UM,U5,Wt]
end
theorem Jt(L:List Tk):∀i,i<(lI L).length->(lI L)[i]?=L[i]?.map (·.s):=by
 induction L with
 | nil=>intro i a;cases a
 | cons t L b =>
  intro i a;unfold lI at a ⊢;split
  ·next h=>rw[Tq h]at a;cases a
  ·next h =>
   rw[To h]at a;cases i with
   | zero=>rfl
   | succ i=>exact b i (by simpa using a)
theorem qy(T:List Tk)(h i:Nat)(a:i<(bB T h).length):(bB T h).getD i ⟨#[]⟩=tS T (h+i):=by
 unfold bB at *;have:=Jt (T.drop h) i a;unfold tS;rw[Tn,this,Vy,Tn];cases T[h+i]? <;> rfl
section
variable {T:List Tk} {t:Tk} {d d':Db}
def vr(s:St):Xs:=s.Xy.getD 1 ⟨#[]⟩
structure rV(d:Db):Prop where
 fl:∀(n:Nat) (s:St),d.XP[n]?=some s->s.XS=2->2<=s.Xy.length
 ds:∀(n m:Nat) (s u:St),d.XP[n]?=some s->d.XP[m]?=some u->s.XS=2->u.XS=2->n<m->(s.til=0∨m<s.til)->((vr s).toList==(vr u).toList)=false
 op:d.XS=2->2<=d.Xy.length->aK d.XK (d.Xy.getD 1 ⟨#[]⟩)=false
theorem gy.XK(R:gy T d)(E:tx T (aa T) d)(F:rV d)(b:d.XP[w]?=some k)(c:k.XS=2)(f:k.til=0):aK d.XK (vr k)=true:=by
 have m:=(Tz.1 b).1;obtain⟨j,-,e,-⟩:=R.ct w k b;have g:oA k.XS=false:=by rw[c];rfl
 have a:=R.hel.now b g;rw[f]at a;have i:=R.hel.at_ m;have n:((aq (aa T) (aw (aa T) w)).k.toList == [36,102])=true:=by rw[<-(cm j).2.1,c];rfl
 rw[E.typ.l,oU,Us];refine⟨aw (aa T) w,Uj.2 ⟨TF.2 i,a.symm⟩,?_⟩;unfold Ig;rw[Tq n,sN];have o:=F.fl w k b c;unfold vr;rw[e,qy T _ 1 (by rw[<-e];omega)];simp
theorem rV.same(F:rV d)(b:d'.XP=d.XP)(e:d'.XS=2->2<=d'.Xy.length->aK d'.XK (d'.Xy.getD 1 ⟨#[]⟩)=false):rV d' :=
 ⟨fun n s a=>by rw[b]at a;exact F.fl n s a,fun n m s u a c=>by rw[b]at a c;exact F.ds n m s u a c,e⟩
theorem rV.ended(F:rV d)(b:Nat)(o:d'.XP=kD d.XP b)(p:d'.XS=0):rV d':=by
 have q:∀(n:Nat) (s:St),d'.XP[n]?=some s->∃v,d.XP[n]?=some v/\s.XS=v.XS/\s.Xy=v.Xy/\(s.til=v.til∨(v.til=0/\s.til=d.XP.length)):=fun n s a=>by
  rw[o]at a;obtain⟨v,f,z⟩:=oQ a;refine⟨v,f,?_⟩;rw[z];split
  ·unfold lJ;split
   ·next c=>exact⟨rfl,rfl,TA ⟨c.1,rfl⟩⟩
   ·exact⟨rfl,rfl,TG rfl⟩
  ·exact⟨rfl,rfl,TG rfl⟩
 refine⟨fun n s a j=>?_,fun n m s u a y j k l w=>?_,fun h=>by rw[p]at h;cases h⟩
 ·obtain⟨v,f,g,i,-⟩:=q n s a;rw[i];exact F.fl n v f (by rw[<-g];exact j)
 ·obtain⟨v,f,g,i,e⟩:=q n s a;obtain⟨x,A,r,t,-⟩:=q m u y;unfold vr;rw[i,t];refine F.ds n m v x f A (by rw[<-g];exact j) (by rw[<-r];exact k) l ?_;rcases e with e | ⟨e,-⟩
  ·rw[<-e];exact w
  ·exact TG e
theorem rV.more(R:gy T d)(E:tx T (aa T) d)(F:rV d)(u:St)(l:u.XS=2->2<=u.Xy.length/\aK d.XK (vr u)=false)(o:d'.XP=d.XP++[u])(p:d'.XS=0):rV d':=by
 have q:∀(n:Nat) (s:St),d'.XP[n]?=some s->(n<d.XP.length/\d.XP[n]?=some s)∨(n=d.XP.length/\s=u):=fun n s a=>by
  rw[o]at a;by_cases g:n<d.XP.length
  ·rw[TP g]at a;exact TG ⟨g,a⟩
  ·have:=(Tz.1 a).1;rw[Tu]at this;have:n<d.XP.length+1:=this;rw[TI (by omega),show n-d.XP.length=0 by omega]at a;cases a
   exact TA ⟨by omega,rfl⟩
 refine⟨fun n s a b=>?_,fun n m s x a A b c k v=>?_,fun h=>by rw[p]at h;cases h⟩
 ·rcases q n s a with ⟨-,h⟩ | ⟨-,rfl⟩
  ·exact F.fl n s h b
  ·exact(l b).1
 ·rcases q m x A with ⟨y,t⟩ | ⟨y,rfl⟩
  ·rcases q n s a with ⟨-,f⟩ | ⟨g,-⟩
   ·exact F.ds n m s x f t b c k v
   ·omega
  ·rcases q n s a with ⟨-,f⟩ | ⟨g,-⟩
   ·have w:=R.hel.le n s f;have r:s.til=0:=(by omega);have i:=R.XK E F f b r;have j:=(l c).2;cases z:((vr s).toList==(vr x).toList)
    ·rfl
    ·have e:(vr s).toList=(vr x).toList:=(by simpa using z);unfold aK at i j;rw[e]at i;rw[i]at j;cases j
   ·omega
theorem rV.step(y:uK T d)(x:tx T (aa T) d)(R:gy T d)(F:rV d)(p:Pl)(f:(aZ d t.s p).1=0):rV (aZ d t.s p).2:=by
 rcases y with ⟨E,i,j,m,w⟩ | ⟨E,i,j,m,w,I,H⟩ | ⟨K,v,B,i,G,O,D,N,m,j,J,w,M⟩
 ·have e:aZ d t.s p=ay d t.s:=by unfold aZ;rw[i];rfl
  rw[e]at f ⊢;unfold ay bU cQ at *;have k:∀d':Db,d'.XP=d.XP->d'.XS≠2->rV d':=fun d' l n=>F.same l (fun h=>absurd h n)
  repeat' split
  all_goals first
   | exact F
   | exact F.ended _ rfl i
   | exact k _ rfl (by rw[show _=_ from i];decide)
   | exact k _ rfl (by simp only;decide)
   | exact k _ rfl (by simp only;rw[i];decide)
   | exact k _ rfl (by show d.XS≠2;rw[i];decide)
 ·have e:aZ d t.s p=aJ d t.s:=by unfold aZ;rw[i];rfl
  rw[e]at f ⊢;have k:∀d':Db,d'.XP=d.XP->d'.Xy=d.Xy->rV d':=fun d' l n=>F.same l (fun _ h=>by rw[n,j]at h;simp at h);unfold aJ
  repeat' split
  all_goals exact k _ rfl rfl
 ·rw[pi D]at f ⊢;by_cases u:(t.s.toList == [36,46])=true
  ·rw[Tq u]at f ⊢;unfold mt at *;split at f
   ·cases f
   ·next r =>
    rw[To r];split at f
    ·cases f
    ·next A =>
     rw[To A];simp only;cases c:((d.XS==7)||(d.XS==8))
     ·simp only[Bool.or_eq_false_iff]at c;have o:(aX d p).XP=d.XP++[⟨d.XS,d.XU,d.Xy,d.XJ,p,0⟩]:=by
       unfold aX nF nW;rw[c.1,c.2];simp only[Bool.false_eq_true,if_false];split <;> rfl
      refine rV.more R x F ⟨d.XS,d.XU,d.Xy,d.XJ,p,0⟩ (fun b=>?_) o rfl;replace b:d.XS=2:=b;have a:2<=d.Xy.length:=by
       unfold mP at r;rw[Tq (TA (by rw[b];rfl))]at r;omega
      exact⟨a,F.op b a⟩
     ·have o:(aX d p).XP=d.XP:=by
       unfold aX eD;rw[Uk]at c;split
       ·rfl
       ·next q=>rw[Tq (c.resolve_left q)]
      exact F.same o (fun h=>by cases h)
  ·rw[To u]at f ⊢;split
   ·unfold cv;split <;> exact F.same rfl F.op
   ·split
    ·exact F
    ·split
     ·exact F.same rfl F.op
     ·split
      ·next C =>
       refine F.same rfl (fun b a=>?_);replace b:d.XS=2:=b;replace a:2<=(d.Xy++[t.s]).length:=a;rw[Tu]at a;replace a:2<=d.Xy.length+1:=a;have g:bi d t.s=0:=by simpa using C
       unfold bi at g;rw[b,To (by decide),To (by decide),To (by decide),To (by omega),Tq (by rfl)]at g;unfold gg at g;split at g
       ·cases g
       ·next L =>
        split at g
        ·cases g
        ·split at g
         ·cases g
         ·next z =>
          show aK d.XK ((d.Xy++[t.s]).getD 1 ⟨#[]⟩)=false;have l:(d.Xy++[t.s]).getD 1 ⟨#[]⟩=t.s:=by
           rw[Tn,TI (by omega),show 1-d.Xy.length=0 by omega];rfl
          rw[l];simpa using z
      ·exact F
theorem gy.flo(R:gy T d)(F:rV d):RU T (aa T):=by
 intro j i c;have a:j∈lE (aa T):=Uj.2 ⟨TF.2 i,by unfold kE;rw[c];simp⟩;rw[un]at a;obtain⟨n,b,rfl⟩:=UF.1 a;have b:n<d.XP.length:=by rw[R.hel.len];exact TF.1 b
 obtain⟨s,k,f,-,g⟩:=R.get b;have l:s.XS=2:=by
  have:=(cm f).2.1;rw[c]at this;simpa using this
 have e:=F.fl n s k l;rw[g]at e;exact⟨e,qy T _ 1 (by omega)⟩
end
end Go.Proofs.YtnbhnocdhbcbcaaGreat
