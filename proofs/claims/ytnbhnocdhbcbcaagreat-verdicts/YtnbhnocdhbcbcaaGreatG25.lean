import Derived.Test.YtnbhnocdhbcbcaaGreatG07
import Derived.Test.YtnbhnocdhbcbcaaGreatG20
import Derived.Test.YtnbhnocdhbcbcaaGreatG24
namespace Go.Proofs.YtnbhnocdhbcbcaaGreat
open Go.RowKit Tryz
open Value IntKind Ending
set_option maxHeartbeats 0
variable{o:List UInt8}{D:Int}{l:ByteArray}{f:List ByteArray}{w x:Nat}{v:Db}{b:List Sm}{I:Sm}{H:List St}{y:List Nat}{i:St}(k:List Sm)(L:Sm)
theorem Ct(l:List ByteArray):∀v x,aJ (eF v l) x=(aJ v x||aJ l x):=by
 induction l with
 | nil=>intro v x;rw[i8,TV];rfl
 | cons a l f =>
  intro v x;have e:eF v (a :: l)=eF (if aJ v a=true then v else v++[a]) l:=rfl;have b:aJ (a :: l) x=((a.toList==x.toList)||aJ l x):=rfl;rw[e,f,b];by_cases h:aJ v a=true
  ·rw[RY h];cases c:(a.toList==x.toList)
   ·rw[Ts]
   ·have d:aJ v x=true:=by
     have:a.toList=x.toList:=(by simpa using c);unfold aJ at h ⊢;rw[<-this];exact h
    rw[d];rfl
  ·rw[RU h,xa,rS,US]
section
variable {T:List Tk} {t:Tk} {d:Db}
theorem oE(b:eU o d.kind)(x:ByteArray)(p:Pl):aX d x p =
  if(x.toList == [36,46])=true then l9 d p
  else if(x.toList == [36,61])=true/\(d.kind==5)=true/\d.Wi=false then ce d
  else if dn x=true then(8,d)
  else if d.Wi=true then(0,{ d with Wp:=d.Wp++[(x,p)] })
  else if(bh d x==0)=true then(0,{ d with We:=d.We++[x] })
  else(bh d x,d):=by
 have a:(d.kind==0)=false/\(d.kind==6)=false:=by
  generalize d.kind=k at b
  (rcases b with ⟨rfl,rfl⟩ | ⟨rfl,rfl⟩ | ⟨rfl,rfl⟩ | ⟨rfl,rfl⟩ | ⟨rfl,rfl⟩ | ⟨rfl,rfl⟩ | ⟨rfl,rfl⟩) <;> exact⟨by decide,by decide⟩
 unfold aX;rw[a.1,a.2,RU (by simp),RU (by simp)]
theorem Qf(a:eU o D):(D==5)=(o == [36,112]):=by(rcases a with ⟨rfl,rfl⟩ | ⟨rfl,rfl⟩ | ⟨rfl,rfl⟩ | ⟨rfl,rfl⟩ | ⟨rfl,rfl⟩ | ⟨rfl,rfl⟩ | ⟨rfl,rfl⟩) <;> decide
theorem LE(I:sH T (ab T) d)(j:eU l.toList d.kind)(c:d.We=f)(m:(ay l||aF l)=false->d.Wm=j4 T (ab T))(x:ByteArray) :
  (if((l.toList == [36,99])||(l.toList == [36,118]))=true then jT T (ab T) x (ab T).length (l.toList == [36,99]) f else g7 T (ab T) l x (ab T).length f)=bh d x:=by
 have b:=fun h=>Dx I (m h) x;have a:=fun h=>Kw I (m h) x;have e:ik T (ab T) x (ab T).length=aJ d.Wn x:=by rw[Ih,<-I.act.l]
 have g:ee T (ab T) x (ab T).length=aJ d.Wg x:=by rw[uq,<-I.con]
 have i:decide (0<=go T (ab T) x (ab T).length)=aJ d.Wq x:=by rw[I1,<-I.typ.l]
 obtain⟨n,o,-⟩:=jJ (k:=l) rfl;unfold jT g7 bh jf jg fQ fM;rw[c];have p:(go T (ab T) x (ab T).length<0) ↔ aJ d.Wq x=false:=by
  rw[<-i];simp
 have q:(0<=go T (ab T) x (ab T).length) ↔ aJ d.Wq x=true:=by
  rw[<-i];simp
 generalize hkl:l.toList=r at *;generalize d.kind=k at j ⊢;simp only[e,g,p,q];rw[n,o]at b a;rcases j with ⟨rfl,rfl⟩ | ⟨rfl,rfl⟩ | ⟨rfl,rfl⟩ | ⟨rfl,rfl⟩ | ⟨rfl,rfl⟩ | ⟨rfl,rfl⟩ | ⟨rfl,rfl⟩
 ·have b:=b (by decide);rw[b];simp only[show(([36,99]:List UInt8) == [36,99])=true from by decide,show((7:Int)==7)=true from rfl,Bool.true_or,if_true,Bool.true_and,Bool.not_true,Bool.false_and,Bool.false_eq_true,if_false];cases aJ f x <;> cases dU d x <;> simp
 ·have a:=a (by decide);rw[e,g]at a;rw[a];simp only[show(([36,118]:List UInt8) == [36,99])=false from by decide,show(([36,118]:List UInt8) == [36,118])=true from by decide,show((8:Int)==7)=false from rfl,show((8:Int)==8)=true from rfl,Bool.or_true,if_true,Bool.false_and,Bool.not_false,Bool.true_and,Bool.false_eq_true,if_false];cases aJ f x <;> cases eJ d x <;> simp
 ·simp only[show(([36,100]:List UInt8) == [36,99])=false from by decide,show(([36,100]:List UInt8) == [36,118])=false from by decide,show(([36,100]:List UInt8) == [36,100])=true from by decide,show((1:Int)==7)=false from rfl,show((1:Int)==8)=false from rfl,show((1:Int)==1)=true from rfl,Bool.or_false,if_true,Bool.false_eq_true,if_false]
 ·simp only[show(([36,102]:List UInt8) == [36,99])=false from by decide,show(([36,102]:List UInt8) == [36,118])=false from by decide,show(([36,102]:List UInt8) == [36,100])=false from by decide,show(([36,102]:List UInt8) == [36,102])=true from by decide,show((2:Int)==7)=false from rfl,show((2:Int)==8)=false from rfl,show((2:Int)==1)=false from rfl,show((2:Int)==2)=true from rfl,Bool.or_false,if_true,Bool.false_eq_true,if_false,beq_iff_eq]
 ·simp only[show(([36,101]:List UInt8) == [36,99])=false from by decide,show(([36,101]:List UInt8) == [36,118])=false from by decide,show(([36,101]:List UInt8) == [36,100])=false from by decide,show(([36,101]:List UInt8) == [36,102])=false from by decide,show((3:Int)==7)=false from rfl,show((3:Int)==8)=false from rfl,show((3:Int)==1)=false from rfl,show((3:Int)==2)=false from rfl,Bool.or_false,Bool.false_eq_true,if_false,beq_iff_eq]
 ·simp only[show(([36,97]:List UInt8) == [36,99])=false from by decide,show(([36,97]:List UInt8) == [36,118])=false from by decide,show(([36,97]:List UInt8) == [36,100])=false from by decide,show(([36,97]:List UInt8) == [36,102])=false from by decide,show((4:Int)==7)=false from rfl,show((4:Int)==8)=false from rfl,show((4:Int)==1)=false from rfl,show((4:Int)==2)=false from rfl,Bool.or_false,Bool.false_eq_true,if_false,beq_iff_eq]
 ·simp only[show(([36,112]:List UInt8) == [36,99])=false from by decide,show(([36,112]:List UInt8) == [36,118])=false from by decide,show(([36,112]:List UInt8) == [36,100])=false from by decide,show(([36,112]:List UInt8) == [36,102])=false from by decide,show((5:Int)==7)=false from rfl,show((5:Int)==8)=false from rfl,show((5:Int)==1)=false from rfl,show((5:Int)==2)=false from rfl,Bool.or_false,Bool.false_eq_true,if_false,beq_iff_eq]
theorem PK(j:eU l.toList d.kind)(b:d.Wi=aJ f ⟨#[36,61]⟩)(e:d.We=f.takeWhile jb)(c:d.Wi=true->d.kind=5/\d.We≠[])(p:Pl):iE l f=(l9 d p).1/\((l9 d p).1=0->(l9 d p).2={ aW d p with kind:=0,label:=⟨#[]⟩,We:=[],Wi:=false,Wp:=[] }/\(d.kind=2->1<d.We.length)):=by
 have o:d.Wi=false->d.We=f:=fun h=>by rw[e];exact tA f (by rw[<-b];exact h)
 have q:d.Wi=true->0<f.length/\0<d.We.length:=fun h=>by
  refine⟨?_,U5.2 (c h).2⟩;rw[b]at h;cases f with
  | nil=>cases h
  | cons a f=>simp
 unfold iE l9 mA;rw[<-b];generalize hkl:l.toList=r at *;generalize hkk:d.kind=k at *;clear e b;cases i:d.Wi
 ·rw[o i];generalize f.length=m
  (rcases j with ⟨rfl,rfl⟩ | ⟨rfl,rfl⟩ | ⟨rfl,rfl⟩ | ⟨rfl,rfl⟩ | ⟨rfl,rfl⟩ | ⟨rfl,rfl⟩ | ⟨rfl,rfl⟩) <;> simp <;> (repeat' split) <;> simp_all <;> omega
 ·obtain⟨t,u⟩:=q i;have g:=(c i).1;subst g;generalize f.length=m at *;generalize d.We.length=s at *;rcases j with ⟨-,h⟩ | ⟨-,h⟩ | ⟨-,h⟩ | ⟨-,h⟩ | ⟨-,h⟩ | ⟨-,h⟩ | ⟨rfl,-⟩
  all_goals first | (exfalso;revert h;decide) | skip
  simp
  (repeat' split) <;> simp_all <;> omega
end
section
variable {T:List Tk} {t:Tk} {d:Db}
theorem AI:∀{x:ByteArray},(x.toList == [36,46])=true->bY x=true/\gW x ⟨#[36]⟩=true:=fun {x} h=>by
 rw[(jJ (dd h)).2.2,FJ (dd h)];decide +kernel
theorem FH(ok:iB T (ab T) (ab T).length)(fo:mD T (ab T) (ab T).length)(I:sH T (ab T) d)(hk:dQ T (fa T)=(l,w))(O:fa T<w)(X:w<=T.length)(K:eU l.toList d.kind)(J:dX T w T.length=f)(U:d.We=f.takeWhile jb)(R:d.Wi=true->d.kind=5/\d.We≠[])(hl:d.Wm=j4 T (ab T)++(if(ay l||aF l)=true then [tS T (fa T)] else []))(h0:(ay l||aF l)=true->((tS T (fa T)).toList == [])=false)(Y:(t.s.toList == [36,46])=true)(p:Pl)(G:d.kind=2->1<d.We.length)(M:d.Wi=false->d.We=f)(z:v={ aW d p with kind:=0,label:=⟨#[]⟩,We:=[],Wi:=false,Wp:=[] }) :
  sH (T++[t]) (ab (T++[t])) v/\ug (T++[t]) v:=by
 obtain⟨W,-⟩:=AI Y;obtain⟨C,V⟩:=nz T t;rw[RY W,oq hk O X K]at C;rw[RY W]at V;simp only at C;have y:bq (T++[t]) w=d.We:=by
  unfold bq;rw[Th X,sV _ t (fun u hu=>?_) Y,U,<-J,lW];have:=uF T w (by omega) u hu;unfold bY at this;simp only[Bool.or_eq_false_iff]at this;exact this.1.1
 have D:=K.dep.1;obtain⟨s,H⟩:∃s:Sm,s=⟨fa T,T.length+1,w,l⟩:=⟨_,rfl⟩
 rw[<-H]at C;have r:s.k=l:=by rw[H]
 have B:s.h=w:=by rw[H]
 have S:s.a=fa T:=by rw[H]
 have v1:DF (T++[t]) (ab T++[s]) (ab T).length=if(l.toList == [36,118])=true then d.We else []:=by
  unfold DF;rw[kZ,r,B,y]
 have v2:IL (T++[t]) (ab T++[s]) (ab T).length=if(l.toList == [36,99])=true then d.We else []:=by
  unfold IL;rw[kZ,r,B,y]
 have v3:GD (T++[t]) (ab T++[s]) (ab T).length=if(l.toList == [36,102])=true then [tS (T++[t]) (w+1)] else []:=by
  unfold GD;rw[kZ,r,B]
 have E:j4 (T++[t]) (ab T++[s])=d.Wm:=by
  rw[uB s ok,hl];congr 1;cases L:(ay l||aF l)
  ·rw[RU (by simp)];exact EK (by rw[r];exact L)
  ·have e:tS (T++[t]) s.a=tS T (fa T):=(by rw[S,fK T [t] _ (by omega)]);rw[RY rfl,<-e];exact On (by rw[r];exact L) (by rw[e];exact h0 L)
 have Q:fa (T++[t])=(T++[t]).length:=by rw[V];simp
 have dv:v.Wg=(aW d p).Wg/\v.Wh=(aW d p).Wh/\v.Wn=(aW d p).Wn/\v.Wq=(aW d p).Wq/\v.blocks=(aW d p).blocks/\v.Wm=(aW d p).Wm:=by
  rw[z];exact⟨rfl,rfl,rfl,rfl,rfl,rfl⟩
 obtain⟨b,c,g,i,j,m⟩:=dv;rw[C];have q:v.Wg=d.Wg++(if(l.toList == [36,99])=true then d.We else [])->(∀x,aJ v.Wh x=(aJ d.Wh x||aJ (if(l.toList == [36,118])=true then d.We else []) x))->v.Wn=d.Wn++(if(l.toList == [36,118])=true then d.We else [])->v.Wq=d.Wq++(if(l.toList == [36,102])=true then [tS (T++[t]) (w+1)] else [])->v.blocks=d.blocks->v.Wm=d.Wm->sH (T++[t]) (ab T++[s]) v/\ug (T++[t]) v:=fun g1 g2 g3 g4 g5 g6 =>
  ⟨I.close ok fo s (fun o=>by rw[r];exact D o) (by rw[v2];exact g1) (fun x=>by rw[v1];exact g2 x) (by rw[v1];exact g3) (by rw[v3];exact g4) g5,
   ug.none Q (by rw[z]) (by rw[z]) (by rw[z]) (by rw[C,E];exact g6)⟩
 -- the seven keys
 have n:∀k:Int,d.kind=k->(k==7)=false->(k==8)=false->(k==2)=false->aW d p=nc d p:=fun k N e7 e8 e2=>by
  unfold aW nC;rw[N,e7,e8,e2];simp
 generalize hkl:l.toList=ac at *;generalize hkk:d.kind=k at *;rcases K with ⟨rfl,rfl⟩ | ⟨rfl,rfl⟩ | ⟨rfl,rfl⟩ | ⟨rfl,rfl⟩ | ⟨rfl,rfl⟩ | ⟨rfl,rfl⟩ | ⟨rfl,rfl⟩
 ·have e:aW d p={ d with Wg:=d.Wg++d.We }:=by unfold aW;rw[hkk];rfl
  rw[e]at b c g i j m;exact q (by rw[b];rfl) (fun x=>by rw[c];simp[i8]) (by rw[g];simp) (by rw[i];simp) j m
 ·have e:aW d p=dW d d.We.length:=by unfold aW;rw[hkk];rfl
  rw[e]at b c g i j m;unfold dW at b c g i j m;exact q (by rw[b];simp) (fun x=>by rw[c];simp only[List.take_length];rw[Ct];rfl) (by rw[g];rfl) (by rw[i];simp) j m
 ·have e:=n 1 rfl rfl rfl rfl;rw[e]at b c g i j m;unfold nc at b c g i j m;exact q (by rw[b];simp) (fun x=>by rw[c];simp[i8]) (by rw[g];simp) (by rw[i];simp) j m
 ·have G:=G rfl;have P:d.Wi=false:=by
   cases h:d.Wi
   ·rfl
   ·exact absurd (R h).1 (by decide)
  have F:=M P;have e:aW d p=nc { d with Wq:=d.Wq++[d.We.getD 1 ⟨#[]⟩] } p:=by
   unfold aW nC;rw[hkk,RU (by decide),RU (by decide),RY ⟨rfl,G⟩]
  have hg:d.We.getD 1 ⟨#[]⟩=tS (T++[t]) (w+1):=by
   have A:w+1<T.length:=by
    rw[F,<-J,lW,Sn,Tc]at G;omega
   rw[F,<-J,lW,fK T [t] _ A];unfold tS;rw[RT,RT,Sy,Us,RQ A];rfl
  rw[e]at b c g i j m;unfold nc at b c g i j m;exact q (by rw[b];simp) (fun x=>by rw[c];simp[i8]) (by rw[g];simp) (by rw[i,hg];rfl) j m
 ·have e:=n 3 rfl rfl rfl rfl;rw[e]at b c g i j m;unfold nc at b c g i j m;exact q (by rw[b];simp) (fun x=>by rw[c];simp[i8]) (by rw[g];simp) (by rw[i];simp) j m
 ·have e:=n 4 rfl rfl rfl rfl;rw[e]at b c g i j m;unfold nc at b c g i j m;exact q (by rw[b];simp) (fun x=>by rw[c];simp[i8]) (by rw[g];simp) (by rw[i];simp) j m
 ·have e:=n 5 rfl rfl rfl rfl;rw[e]at b c g i j m;unfold nc at b c g i j m;exact q (by rw[b];simp) (fun x=>by rw[c];simp[i8]) (by rw[g];simp) (by rw[i];simp) j m
theorem Bb(n:iB T (ab T) (ab T).length)(z:mD T (ab T) (ab T).length)(I:sH T (ab T) d)(D:dQ T (fa T)=(l,w))(b:fa T<w)(m:w<=T.length)(k:eU l.toList d.kind)(B:dX T w T.length=f)(E:d.Wm=j4 T (ab T)++(if(ay l||aF l)=true then [tS T (fa T)] else []))(A:(ay l||aF l)=true->((tS T (fa T)).toList == [])=false)(C:bY t.s=false)(o:v.Wg=d.Wg)(p:v.Wh=d.Wh)(q:v.Wn=d.Wn)(r:v.Wq=d.Wq)(u:v.blocks=d.blocks)(x:v.Wm=d.Wm)(y:v.kind=d.kind)(e:v.Wi=aJ (f++[t.s]) ⟨#[36,61]⟩)(i:v.We=(f++[t.s]).takeWhile jb)(g:v.Wi=true->v.kind=5/\v.We≠[]):sH (T++[t]) (ab (T++[t])) v/\ug (T++[t]) v:=by
 obtain⟨j,c⟩:=lL (T:=T) (t:=t) C;have a:tS (T++[t]) (fa (T++[t]))=tS T (fa T):=by rw[c,fK T [t] _ (by omega)]
 refine⟨by rw[j];exact I.same n z o p q r u,ug.body l w (f++[t.s]) (by rw[c];exact oq D b m k) (by rw[c];exact b) (by simp;omega) (by rw[y];exact k) (by rw[Lw t w m,B]) e i g ?_ (fun h=>by rw[a];exact A h)⟩;rw[j,qJ n,a,x];exact E
theorem Kn(E:iB T (ab T) (ab T).length)(u:mD T (ab T) (ab T).length)(I:sH T (ab T) d)(C:dQ T (fa T)=(l,w))(b:fa T<w)(B:w<=T.length)(j:eU l.toList d.kind)(A:dX T w T.length=f)(a:d.Wi=aJ f ⟨#[36,61]⟩)(i:d.We=f.takeWhile jb)(m:d.Wi=true->d.kind=5/\d.We≠[])(r:d.Wm=j4 T (ab T)++(if(ay l||aF l)=true then [tS T (fa T)] else []))(x:(ay l||aF l)=true->((tS T (fa T)).toList == [])=false)(p:Pl) :
  mu T (ab T) l t.s (ab T).length f=(aX d t.s p).1/\((aX d t.s p).1=0->sH (T++[t]) (ab (T++[t])) (aX d t.s p).2/\ug (T++[t]) (aX d t.s p).2):=by
 have k:d.Wi=false->d.We=f:=fun h=>by rw[i];exact tA f (by rw[<-a];exact h)
 have o:(⟨#[36,61]⟩:ByteArray).toList=[36,61]:=by decide +kernel
 rw[oE j];unfold mu;cases P:(t.s.toList == [36,46])
 ·simp only[Bool.false_eq_true,if_false];rw[<-a,<-Qf j];cases y:((t.s.toList == [36,61])&&((d.kind==5) && !d.Wi))
  ·have G:¬((t.s.toList == [36,61])=true/\(d.kind==5)=true/\d.Wi=false):=fun h=>by
    rw[h.1,h.2.1,h.2.2]at y;cases y
   simp only[Bool.false_eq_true,if_false];rw[RU G,iu];cases N:dn t.s
   ·have c:bY t.s=false:=by
     cases K:bY t.s
     ·rfl
     ·have:=(lg K).1;rw[iu,N]at this;cases this
    have L:(t.s.toList == [36,61])=false:=by
     cases K:(t.s.toList == [36,61])
     ·rfl
     ·have e:=FJ (dd K);rw[iu,N]at e;exact absurd e (by decide +kernel)
    simp only[Bool.false_eq_true,if_false];cases z:d.Wi
    ·have D:=k z;simp only[Bool.false_eq_true,if_false];have Q:=LE I j D (fun h=>by rw[r,RU (by rw[h];simp),Su]) t.s;rw[Q];have g:aJ (f++[t.s]) ⟨#[36,61]⟩=false:=by
      rw[xa,rS,<-a,z,o,L];rfl
     cases H:(bh d t.s==0)
     ·simp only[Bool.false_eq_true,if_false];exact⟨trivial,fun h=>by rw[h]at H;cases H⟩
     ·rw[RY rfl];refine⟨by simpa using H,fun _=>Bb E u I C b B j A r x c rfl rfl rfl rfl rfl rfl rfl g.symm ?_ (fun h=>Bool.noConfusion h)⟩;rw[tA _ g];simp only;rw[D]
    ·have O:aJ f ⟨#[36,61]⟩=true:=(by rw[<-a];exact z);rw[RY rfl,RY rfl];exact⟨rfl,fun _=>Bb E u I C b B j A r x c rfl rfl rfl rfl rfl rfl rfl (by rw[xa,O,UC]) (by rw[Ns _ _ O];exact i) (fun _=>m z)⟩
   ·rw[RY rfl,RY rfl];exact⟨rfl,fun h=>by cases h⟩
  ·simp only[Bool.and_eq_true,Bool.not_eq_true']at y;obtain⟨v,M,F⟩:=y;have D:=k F;rw[RY rfl,RY (show(t.s.toList == [36,61])=true/\(d.kind==5)=true/\d.Wi=false from⟨v,M,F⟩)];unfold ce;rw[D];by_cases n:f.length=0
   ·rw[RY n,RY n];exact⟨rfl,fun h=>by cases h⟩
   ·rw[RU n,RU n];have c:bY t.s=false:=(by rw[(jJ (dd v)).2.2];decide);have J:aJ f ⟨#[36,61]⟩=false:=(by rw[<-a];exact F);have g:aJ (f++[t.s]) ⟨#[36,61]⟩=true:=(by rw[xa,rS,o,v,V7]);refine⟨rfl,fun _=>Bb E u I C b B j A r x c rfl rfl rfl rfl rfl rfl rfl g.symm ?_ (fun _=>⟨by simpa using M,?_⟩)⟩
    ·have q:=L7 f J;rw[List.takeWhile_append_of_pos q,Um (by unfold jb;rw[v];simp),Su]
    ·simp only;intro e;rw[e]at n;exact n rfl
 ·rw[RY rfl,RY rfl];obtain⟨R,S⟩:=PK j a i m p;refine⟨R,fun h=>?_⟩;obtain⟨U,V⟩:=S h;exact FH E u I C b B j A i m r x P p V k U
theorem pS(a:(l.toList == [36,123])=false)(b:(l.toList == [36,125])=false)(o:Int):aP o l=o:=by
 unfold aP;rw[a,b];rfl
theorem An(h:dn l=false)(o:Int):aP o l=o:=by
 have a:bY l=false:=by
  cases b:bY l
  ·rfl
  ·have:=(lg b).1;rw[iu,h]at this;cases this
 unfold bY at a;simp only[Bool.or_eq_false_iff]at a;exact pS a.1.2 a.2 o
theorem wG(d:Db)(p:Pl):(aW d p).blocks=d.blocks:=by
 unfold aW dW nc nC;split
 ·rfl
 ·split
  ·rfl
  ·split <;> rfl
theorem Dw(o:ug T d)(x:ByteArray)(p:Pl)(h:(aX d x p).1=0):((aX d x p).2.blocks.length:Int)=aP (d.blocks.length:Int) x:=by
 rcases o with ⟨v,j,g,f,r⟩ | ⟨v,j,g,f,r,z,y⟩ | ⟨D,n,B,j,w,a,u,F,f,g,A,r,E⟩
 ·have e:aX d x p=aw d x:=by unfold aX;rw[j];rfl
  rw[e]at h ⊢;cases b:(x.toList == [36,123])
  ·cases c:(x.toList == [36,125])
   ·rw[pS b c];unfold aw bO;rw[b,c,RU (by simp),RU (by simp)]
    repeat' split
    all_goals rfl
   ·have k:aw d x=(match d.blocks.getLast? with | none=>(9,d) | some p=>(0,cI d p)):=by
     unfold aw;rw[b,c,RU (by simp),RY rfl];rfl
    rw[k]at h ⊢;cases l:d.blocks.getLast? with
    | none=>rw[l]at h;cases h
    | some q =>
     have s:0<d.blocks.length:=by
      rw[U5];intro e;rw[e]at l;cases l
     have t:(cI d q).blocks=d.blocks.dropLast:=by
      unfold cI de;split <;> rfl
     simp only;rw[t,rP (dd c),Uc]
     show((d.blocks.length-1:Nat):Int)=(d.blocks.length:Int)-1
     omega
  ·have k:aw d x=(0,{ d with blocks:=d.blocks++[(d.Wn.length,d.Wq.length)],rbl:=d.rbl++[d.Wv.length] }):=by
    unfold aw;rw[b,RY rfl]
   rw[k,rP (dd b)];simp only[List.length_append,List.length_cons,List.length_nil]
   show((d.blocks.length+(0+1):Nat):Int)=(d.blocks.length:Int)+1
   omega
 ·have e:aX d x p=aI d x:=by unfold aX;rw[j];rfl
  rw[e]at h ⊢;have C:aP (d.blocks.length:Int) x=(d.blocks.length:Int):=by
   refine pS ?_ ?_ _
   ·cases a:(x.toList == [36,123])
    ·rfl
    ·exfalso
     unfold aI at h;rw[cm a,cm a,cm a,cm a,RU (by decide),RU (by decide),RU (by decide),RU (by decide)]at h;cases h
   ·cases a:(x.toList == [36,125])
    ·rfl
    ·exfalso
     unfold aI at h;rw[cm a,cm a,cm a,cm a,RU (by decide),RU (by decide),RU (by decide),RU (by decide)]at h;cases h
  rw[C];unfold aI
  repeat' split
  all_goals rfl
 ·rw[oE u]at h ⊢;cases b:(x.toList == [36,46])
  ·rw[b,RU (by simp)]at h;rw[RU (by simp)];by_cases c:(x.toList == [36,61])=true/\(d.kind==5)=true/\d.Wi=false
   ·rw[RY c,pS (by rw[cm c.1];decide) (by rw[cm c.1];decide)];unfold ce;split <;> rfl
   ·rw[RU c]at h ⊢;cases m:dn x
    ·rw[An m,RU (by simp)]
     repeat' split
     all_goals rfl
    ·rw[m,RY rfl]at h;cases h
  ·rw[RY rfl,pS (by rw[cm b];decide) (by rw[cm b];decide)];unfold l9;split
   ·rfl
   ·split
    ·rfl
    ·simp only;rw[wG]
end
def lm(S:List Sm)(j:Nat):Bool:=((aq S j).k.toList == [36,100])||((aq S j).k.toList == [36,102])||((aq S j).k.toList == [36,101])||((aq S j).k.toList == [36,97])||((aq S j).k.toList == [36,112])
def lp(S:List Sm):List Nat:=(List.range S.length).filter (lm S)
def av(S:List Sm)(n:Nat):Nat:=(lp S).getD n S.length
theorem Ml(j:Nat)(a:j<k.length):lm (k++[L]) j=lm k j:=by
 unfold lm;rw[jt k [L] j a]
theorem m8:lp (k++[L])=lp k++(if lm (k++[L]) k.length=true then [k.length] else []):=by
 unfold lp;rw[cC,Ty,Tf,fR (fun j a=>Ml k L j a)];congr 1;cases h:lm (k++[L]) k.length <;> simp[h]
theorem OU(h:(lp b)[w]?=some x):x<b.length:=by
 have:=TG h;exact Sd.1 (SD.1 this).1
theorem OT(h:w<(lp b).length):av b w<b.length:=by
 have e:(lp b)[w]?=some (av b w):=by unfold av;rw[RT,RQ h];rfl
 exact OU e
theorem MR:av k (lp k).length=k.length:=by
 unfold av;rw[RT,SG (RV _)];rfl
theorem MQ(h:w<(lp b).length):av (b++[I]) w=av b w:=by
 unfold av;rw[m8,RT,RT,Si h,RQ h];rfl
theorem gD{S:List Sm}{n a:Nat}(h:n<a)(b:a<(lp S).length):av S n<av S a:=by
 have c:(lp S).Pairwise (· < ·):=Vu _ UO;have:=UB.1 c n a (by omega) b h;unfold av;rw[RT,RT,RQ b,RQ (by omega)];exact this
theorem sP(a:w<=x)(c:x<=b.length):aM (b++[I]) w x=aM b w x:=by
 unfold aM;rw[Th (by omega),TA (by rw[Tc];omega)]
theorem qE(a:w<=b.length):bm (b++[I]) w=bm b w:=by
 unfold bm;rw[TA a]
theorem Gs(a:w<=b.length):aM (b++[I]) w (b.length+1)=(aM b w b.length&&decide (bm b w<=aP (bm b b.length) I.k)):=by
 rw[og (b++[I]) w b.length a (by rw[cC];omega),sP a (RV _),qE a,ir]
theorem zY(a:w<=b.length)(h:aM b w b.length=true):bm b w<=bm b b.length:=zZ b w b.length a (RV _) h b.length a (RV _)
theorem oe(a:w<=b.length)(c:∀o,o<=aP o I.k):aM (b++[I]) w (b.length+1)=aM b w b.length:=by
 rw[Gs a];cases h:aM b w b.length
 ·rfl
 ·have:=zY a h;have:=c (bm b b.length);simp;omega
structure nO(S:List Sm)(l:List St)(rb:List Nat):Prop where
 len:l.length=(lp S).length
 til:∀(n:Nat) (s:St),l[n]?=some s->pK s.kind=false->∀a,n<a->a<=l.length->(s.til==0||decide (a<s.til))=aM S (av S n) (av S a)
 le:∀(n:Nat) (s:St),l[n]?=some s->s.til<=l.length
 dep:bm S S.length=(rb.length:Int)
 rbl:∀i,i<rb.length->rb.getD i 0<=l.length/\∀n,n<l.length->aM S (av S n) S.length=true->(rb.getD i 0<=n ↔ (i:Int)<bm S (av S n))
theorem nO.nil:nO [] [] []:=⟨rfl,(fun n s h=>by cases h),(fun n s h=>by cases h),rfl,fun i h=>by cases h⟩
theorem nO.at_(h:nO b H y)(a:w<H.length):av b w<b.length:=OT (by rw[<-h.len];exact a)
theorem nO.ix(h:nO b H y)(s:Sm)(a:w<H.length):av (b++[s]) w=av b w:=MQ (by rw[<-h.len];exact a)
theorem nO.ixEnd(h:nO b H y):av b H.length=b.length:=by rw[h.len];exact MR b
theorem nO.now(h:nO b H y)(a:H[w]?=some i)(c:pK i.kind=false):(i.til==0)=aM b (av b w) b.length:=by
 have d:=(R8.1 a).1;have:=h.til w i a c H.length d (RV _);rw[h.ixEnd]at this;rw[<-this];have:=h.le w i a;rw[TF (by omega),TV]
theorem nO.other(h:nO b H y)(s:Sm)(G:lm (b++[s]) b.length=false)(u:∀o,o<=aP o s.k)(f:List Nat)(F:aP (bm b b.length) s.k=f.length)(E:f=y∨f=y++[H.length]):nO (b++[s]) H f:=by
 have e:lp (b++[s])=lp b:=by rw[m8,RU (by rw[G];simp),Su]
 have A:av (b++[s]) H.length=b.length+1:=by
  unfold av;rw[e,RT,SG (by rw[h.len];exact RV _)];exact cC b s
 refine⟨by rw[e];exact h.len,fun n t v x a g l=>?_,h.le,by rw[cC,ir];exact F,fun i j=>?_⟩
 ·have d:=(R8.1 v).1;have m:=h.at_ d;rw[h.ix s d];by_cases B:a=H.length
  ·subst B;rw[A,oe (by omega) u,h.til n t v x _ g l,h.ixEnd]
  ·have c:a<H.length:=(by omega);have:=h.at_ c;have r:av b n<=av b a:=Te (gD g (by rw[<-h.len];exact c));rw[h.ix s c,sP r (by omega)];exact h.til n t v x a g l
 ·rw[cC];have p:∀i,i<y.length->y.getD i 0<=H.length/\∀n,n<H.length->aM (b++[s]) (av (b++[s]) n) (b.length+1)=true->(y.getD i 0<=n ↔ (i:Int)<bm (b++[s]) (av (b++[s]) n)):=fun i j=>by
   obtain⟨C,D⟩:=h.rbl i j;refine⟨C,fun n d c=>?_⟩;have m:=h.at_ d;rw[h.ix s d]at c ⊢;rw[oe (by omega) u]at c;rw[qE (by omega)];exact D n d c
  rcases E with rfl | rfl
  ·exact p i j
  ·rw[R9]at j;replace j:i<y.length+1:=j;by_cases w:i<y.length
   ·have q:(y++[H.length]).getD i 0=y.getD i 0:=(by rw[RT,RT,Si w]);rw[q];exact p i w
   ·have q:i=y.length:=(by omega);subst q;have z:(y++[H.length]).getD y.length 0=H.length:=by rw[RT,Sf (RV _),Td];rfl
    rw[z];refine⟨RV _,fun n d c=>?_⟩;have m:=h.at_ d;rw[h.ix s d]at c ⊢;rw[oe (by omega) u]at c;rw[qE (by omega)];have:=zY (by omega) c;have:=h.dep;omega
theorem nO.kept(h:nO b H y)(s:Sm)(K:lm (b++[s]) b.length=true)(B:∀o,aP o s.k=o)(t:St)(L:t.til=0):nO (b++[s]) (H++[t]) y:=by
 have d:∀o,o<=aP o s.k:=fun o=>by rw[B o];exact UX _
 have e:lp (b++[s])=lp b++[b.length]:=by rw[m8,RY K]
 have m:(H++[t]).length=H.length+1:=by rw[R9];rfl
 have q:av (b++[s]) H.length=b.length:=by
  unfold av;rw[e,h.len,RT,Sf (RV _),Td];rfl
 have A:av (b++[s]) (H.length+1)=b.length+1:=by
  unfold av;rw[e,RT,SG (by rw[R9,h.len];exact RV _)];exact cC b s
 have f:aM (b++[s]) b.length (b.length+1)=true:=by
  rw[oe (RV _) d];exact BB b b.length
 refine⟨by rw[m,e,R9,h.len];rfl,fun n u c w a l v=>?_,fun n u c=>?_,by rw[cC,ir,B];exact h.dep,fun i J=>?_⟩
 ·rw[m]at v;by_cases g:n<H.length
  ·rw[Si g]at c;have z:=h.at_ g;have M:=h.le n u c;rw[h.ix s g];by_cases j:a<H.length
   ·have:=h.at_ j;have x:av b n<=av b a:=Te (gD l (by rw[<-h.len];exact j));rw[h.ix s j,sP x (by omega)];exact h.til n u c w a l (by omega)
   ·by_cases D:a=H.length
    ·subst D;rw[q,sP (by omega) (RV _),<-h.now c w,TF (by omega),TV]
    ·have E:a=H.length+1:=(by omega);subst E;rw[A,oe (by omega) d,<-h.now c w,TF (by omega),TV]
  ·have F:n=H.length:=(by omega);have j:a=H.length+1:=(by omega);subst F j;rw[Sf (RV _),Td]at c;cases c
   rw[q,A,f,L];rfl
 ·rw[m];by_cases g:n<H.length
  ·rw[Si g]at c;have:=h.le n u c;omega
  ·have:=(R8.1 c).1;rw[m]at this;rw[Sf (by omega),show n-H.length=0 by omega]at c;cases c
   omega
 ·obtain⟨G,I⟩:=h.rbl i J;rw[m,cC];refine⟨by omega,fun n g r=>?_⟩;by_cases p:n<H.length
  ·have z:=h.at_ p;rw[h.ix s p]at r ⊢;rw[oe (by omega) d]at r;rw[qE (by omega)];exact I n p r
  ·have C:n=H.length:=(by omega);subst C;rw[q,qE (RV _),h.dep];constructor
   ·intro _;omega
   ·intro _;exact G
theorem oj(h:(ki H w)[x]?=some i):∃v,H[x]?=some v/\i=(if w<=x/\x<H.length then lz H.length v else v):=by
 unfold ki at h;rw[mW]at h;cases e:H[x]? with
 | none=>rw[e]at h;cases h
 | some v=>rw[e]at h;simp only[Option.map_some,Option.some.injEq]at h;exact⟨v,rfl,h.symm⟩
theorem nO.pop(h:nO b H (y++[w]))(s:Sm)(R:lm (b++[s]) b.length=false)(J:∀o,aP o s.k=o-1):nO (b++[s]) (ki H w) y:=by
 have e:lp (b++[s])=lp b:=by rw[m8,RU (by rw[R];simp),Su]
 have t:(ki H w).length=H.length:=jC H w H.length;have N:av (b++[s]) H.length=b.length+1:=by
  unfold av;rw[e,RT,SG (by rw[h.len];exact RV _)];exact cC b s
 have P:bm b b.length=(y.length:Int)+1:=by rw[h.dep,R9];rfl
 obtain⟨B,l⟩:=h.rbl y.length (by rw[R9];exact Nat.lt_succ_self _);have M:(y++[w]).getD y.length 0=w:=by rw[RT,Sf (RV _),Td];rfl
 rw[M]at B l;have K:∀n,n<H.length->aM (b++[s]) (av b n) (b.length+1)=(aM b (av b n) b.length&&decide (n<w)):=fun n d=>by
  have p:=h.at_ d;rw[Gs (by omega)];cases g:aM b (av b n) b.length
  ·rfl
  ·have q:=l n d g;have:=zY (by omega) g;rw[J,TP,TP];by_cases c:n<w
   ·rw[TH c];exact TH (by omega)
   ·rw[TF c];exact TF (by omega)
 refine⟨by rw[t,e];exact h.len,fun n u D m a r A=>?_,fun n u D=>?_,by rw[cC,ir,J,P];omega,fun i I=>?_⟩
 ·obtain⟨v,j,rfl⟩:=oj D;have d:=(R8.1 j).1;have p:=h.at_ d;rw[t]at A;have f:pK v.kind=false:=by
   split at m
   ·unfold lz at m;split at m <;> exact m
   ·exact m
  have E:=h.now j f;rw[h.ix s d];have Q:=h.le n v j;by_cases x:a<H.length
  ·have:=h.at_ x;have C:av b n<=av b a:=Te (gD r (by rw[<-h.len];exact x));rw[h.ix s x,sP C (by omega),<-h.til n v j f a r (by omega)];split
   ·unfold lz;split
    ·next c=>rw[c.1];simp;omega
    ·rfl
   ·rfl
  ·have O:a=H.length:=(by omega);subst O;rw[N,K n d,<-E];by_cases c:w<=n
   ·rw[RY ⟨c,d⟩,TF (show ¬n<w by omega),Bool.and_false];unfold lz;by_cases z:v.til=0
    ·rw[RY ⟨z,f⟩]
     show(H.length==0||decide (H.length<H.length))=false
     rw[Sp.2 (show H.length≠0 by omega),TF (Nat.lt_irrefl _)];rfl
    ·rw[RU (fun q=>z q.1)];have:(v.til==0)=false:=Sp.2 z;rw[this,TF (show ¬H.length<v.til by omega)];rfl
   ·rw[RU (fun q=>c q.1),TH (show n<w by omega),Bool.and_true,TF (show ¬H.length<v.til by omega),TV]
 ·obtain⟨v,j,rfl⟩:=oj D;have:=h.le n v j;rw[t];split
  ·unfold lz;split
   ·exact RV _
   ·exact this
  ·exact this
 ·obtain⟨F,G⟩:=h.rbl i (by rw[R9];exact Nat.lt_succ_of_lt I);have L:(y++[w]).getD i 0=y.getD i 0:=by rw[RT,RT,Si I]
  rw[L]at F G;rw[t,cC];refine⟨F,fun n d g=>?_⟩;have p:=h.at_ d;rw[h.ix s d]at g ⊢;rw[K n d,Sk]at g;rw[qE (by omega)];exact G n d g.1
def Oo(k:Int):Bool:=decide (2<=k/\k<=6)
structure gM(T:List Tk)(d:Db):Prop where
 hel:nO (ab T) d.Wv d.rbl
 ct:∀(n:Nat) (s:St),d.Wv[n]?=some s->eU (aq (ab T) (av (ab T) n)).k.toList s.kind/\s.label=bN T (aq (ab T) (av (ab T) n))/\s.We=bq T (aq (ab T) (av (ab T) n)).h/\dG T (aq (ab T) (av (ab T) n)).h
 lab:d.label=if Oo d.kind=true then tS T (fa T) else⟨#[]⟩
section
variable {T:List Tk} {t:Tk} {d d':Db}
theorem tC:lm (k++[L]) k.length=(((L.k.toList == [36,100])||(L.k.toList == [36,102])||(L.k.toList == [36,101])||(L.k.toList == [36,97])||(L.k.toList == [36,112]))):=by
 unfold lm;rw[kZ]
theorem gM.old(R:gM T d)(r:iB T (ab T) (ab T).length){M:List Sm}{b:St}(p:w<d.Wv.length)(q:d.Wv[w]?=some i)(e:av (ab T++M) w=av (ab T) w)(g:b.kind=i.kind)(j:b.label=i.label)(l:b.We=i.We) :
  eU (aq (ab T++M) (av (ab T++M) w)).k.toList b.kind/\b.label=bN (T++[t]) (aq (ab T++M) (av (ab T++M) w))/\b.We=bq (T++[t]) (aq (ab T++M) (av (ab T++M) w)).h/\dG (T++[t]) (aq (ab T++M) (av (ab T++M) w)).h:=by
 obtain⟨m,n,o,f⟩:=R.ct w i q;have c:=R.hel.at_ p;rw[e,jt _ _ _ c,g,j,l];refine⟨m,?_,?_,Ks T [t] _ f⟩
 ·rw[n];unfold bN;rw[fK T [t] _ (r.a _ c)]
 ·rw[o,pP T [t] _ f]
theorem gM.Wj(R:gM T d)(k:iB T (ab T) (ab T).length)(i:bY t.s=false)(c:d'.Wv=d.Wv)(f:d'.rbl=d.rbl)(g:d'.label=if Oo d'.kind=true then tS (T++[t]) (fa T) else⟨#[]⟩):gM (T++[t]) d':=by
 obtain⟨b,e⟩:=lL (T:=T) (t:=t) i;refine⟨by rw[b,c,f];exact R.hel,fun n s a=>?_,by rw[e];exact g⟩;rw[c]at a;have j:=(R8.1 a).1;rw[b];have:=R.old (t:=t) k (M:=[]) j a (by rw[Su]) rfl rfl rfl;rw[Su]at this;exact this
theorem gM.other(R:gM T d)(p:iB T (ab T) (ab T).length)(s:Sm)(c:ab (T++[t])=ab T++[s])(l:lm (ab T++[s]) (ab T).length=false)(m:∀o,o<=aP o s.k)(j:aP (bm (ab T) (ab T).length) s.k=(d'.rbl.length:Int))(i:d'.rbl=d.rbl∨d'.rbl=d.rbl++[d.Wv.length])(b:d'.Wv=d.Wv)(f:d'.label=⟨#[]⟩)(g:d'.kind=0):gM (T++[t]) d':=by
 refine⟨by rw[c,b];exact R.hel.other s l m d'.rbl j i,fun n u a=>?_,by rw[f,g];rfl⟩;rw[b]at a;have e:=(R8.1 a).1;rw[c];exact R.old p e a (R.hel.ix s e) rfl rfl rfl
theorem gM.kept(R:gM T d)(z:iB T (ab T) (ab T).length)(s:Sm)(f:ab (T++[t])=ab T++[s])(g:lm (ab T++[s]) (ab T).length=true)(x:∀o,aP o s.k=o)(u:St)(y:u.til=0)(p:eU s.k.toList u.kind)(w:u.label=bN (T++[t]) s)(q:u.We=bq (T++[t]) s.h)(r:dG (T++[t]) s.h)(c:d'.Wv=d.Wv++[u])(i:d'.rbl=d.rbl)(j:d'.label=⟨#[]⟩)(l:d'.kind=0):gM (T++[t]) d':=by
 refine⟨by rw[f,c,i];exact R.hel.kept s g x u y,fun n v a=>?_,by rw[j,l];rfl⟩;rw[c]at a;rw[f];by_cases b:n<d.Wv.length
 ·rw[Si b]at a;exact R.old z b a (R.hel.ix s b) rfl rfl rfl
 ·have e:n=d.Wv.length:=by
   have:=(R8.1 a).1;rw[R9]at this;have:n<d.Wv.length+1:=this;omega
  subst e;rw[Sf (RV _),Td]at a;cases a
  have m:av (ab T++[s]) d.Wv.length=(ab T).length:=by
   unfold av;rw[m8,RY g,R.hel.len,RT,Sf (RV _),Td];rfl
  rw[m,kZ];exact⟨p,w,q,r⟩
theorem gM.pop(R:gM T d)(x:iB T (ab T) (ab T).length)(s:Sm)(b:ab (T++[t])=ab T++[s])(m:lm (ab T++[s]) (ab T).length=false)(p:∀o,aP o s.k=o-1)(g:d.rbl=y++[w])(a:d'.Wv=ki d.Wv w)(i:d'.rbl=y)(j:d'.label=⟨#[]⟩)(l:d'.kind=0):gM (T++[t]) d':=by
 have h:=R.hel;rw[g]at h;refine⟨by rw[b,a,i];exact h.pop s m p,fun n u e=>?_,by rw[j,l];rfl⟩;rw[a]at e;obtain⟨v,f,r⟩:=oj e;have c:=(R8.1 f).1;have q:u.kind=v.kind/\u.label=v.label/\u.We=v.We:=by
  rw[r];split
  ·unfold lz;split <;> exact⟨rfl,rfl,rfl⟩
  ·exact⟨rfl,rfl,rfl⟩
 rw[b];exact R.old x c f (R.hel.ix s c) q.1 q.2.1 q.2.2
end
section
variable {T:List Tk} {t:Tk} {d:Db}
theorem qG(h:dn l=false):bY l=false:=by
 cases a:bY l
 ·rfl
 ·have:=(lg a).1;rw[iu,h]at this;cases this
theorem fC(h:(l.toList==o)=true)(a:((o == [36,46])||(o == [36,123])||(o == [36,125]))=false):bY l=false:=by
 rw[(jJ (dd h)).2.2];exact a
theorem gM.first(R:gM T d)(b:iB T (ab T) (ab T).length)(A:bm (ab T) (ab T).length=(d.blocks.length:Int))(p:fa T=T.length)(u:d.kind=0)(a:(aw d t.s).1=0):gM (T++[t]) (aw d t.s).2:=by
 have g:d.label=⟨#[]⟩:=by rw[R.lab,u];rfl
 unfold aw at *;by_cases c:(t.s.toList == [36,123])=true
 ·rw[RY c];obtain⟨k,-⟩:=mZ (T:=T) (t:=t) p (by rw[(jJ (dd c)).2.2];decide);have i:∀o,aP o t.s=o+1:=fun o=>by rw[rP (dd c)];rfl
  refine R.other b _ k (by rw[tC];simp only;rw[dd c];decide) (fun o=>by show o<=aP o t.s;rw[i];omega) ?_ (RZ rfl) rfl g u;show aP _ t.s=_;rw[i,R.hel.dep];simp only[List.length_append,List.length_cons,List.length_nil];omega
 rw[RU c]at a ⊢;by_cases f:(t.s.toList == [36,125])=true
 ·rw[RY f]at a ⊢;cases r:d.blocks.getLast? with
  | none=>rw[r]at a;cases a
  | some q =>
   simp only;obtain⟨k,-⟩:=mZ (T:=T) (t:=t) p (by rw[(jJ (dd f)).2.2];decide);have i:∀o,aP o t.s=o-1:=fun o=>by rw[rP (dd f)];rfl
   have j:d.rbl≠[]:=by
    intro e;have:=R.hel.dep;rw[A,e]at this;have:d.blocks=[]:=Sw (by simpa using this);rw[this]at r;cases r
   have x:d.rbl=d.rbl.dropLast++[d.rbl.getLast j]:=(UQ j).symm;have y:d.rbl.getLast?=some (d.rbl.getLast j):=Uu j;unfold cI;rw[y];exact R.pop b _ k (by rw[tC];simp only;rw[dd f];decide) (fun o=>i o) x rfl rfl g u
 rw[RU f]at a ⊢;by_cases l:(t.s.toList == [36,99])=true
 ·rw[RY l]at a ⊢;by_cases w:0<d.blocks.length
  ·rw[RY w]at a;cases a
  ·rw[RU w];exact R.Wj b (fC l (by decide)) rfl rfl g
 rw[RU l]at a ⊢;by_cases m:(t.s.toList == [36,118])=true
 ·rw[RY m];exact R.Wj b (fC m (by decide)) rfl rfl g
 rw[RU m]at a ⊢;by_cases n:(t.s.toList == [36,100])=true
 ·rw[RY n];exact R.Wj b (fC n (by decide)) rfl rfl g
 rw[RU n]at a ⊢;split at a
 ·cases a
 ·next z =>
  rw[RU z];unfold bO at *;cases v:dn t.s
  ·rw[v,RU (by simp)]at a;split at a
   ·cases a
   ·next B =>
    split at a
    ·cases a
    ·next C =>
     rw[RU (by simp),RU B,RU C];exact R.Wj b (qG v) rfl rfl (by show t.s=tS (T++[t]) (fa T);rw[p,nN])
  ·rw[v,RY rfl]at a;cases a
theorem gM.key(R:gM T d)(c:iB T (ab T) (ab T).length)(k:fa T+1=T.length)(j:d.kind=6)(a:(aI d t.s).1=0):gM (T++[t]) (aI d t.s).2:=by
 have b:d.label=tS (T++[t]) (fa T):=by rw[R.lab,j,fK T [t] _ (by omega)];rfl
 unfold aI at *;split
 ·next h=>exact R.Wj c (fC h (by decide)) rfl rfl b
 ·next e =>
  rw[RU e]at a;split
  ·next h=>exact R.Wj c (fC h (by decide)) rfl rfl b
  ·next f =>
   rw[RU f]at a;split
   ·next h=>exact R.Wj c (fC h (by decide)) rfl rfl b
   ·next g =>
    rw[RU g]at a;split
    ·next h=>exact R.Wj c (fC h (by decide)) rfl rfl b
    ·next i=>rw[RU i]at a;cases a
theorem CB(h:eU o D):((o == [36,100])||(o == [36,102])||(o == [36,101])||(o == [36,97])||(o == [36,112]))=!((D==7)||(D==8)):=by
 (rcases h with ⟨rfl,rfl⟩ | ⟨rfl,rfl⟩ | ⟨rfl,rfl⟩ | ⟨rfl,rfl⟩ | ⟨rfl,rfl⟩ | ⟨rfl,rfl⟩ | ⟨rfl,rfl⟩) <;> decide
theorem Mm(h:eU l.toList D):(ay l||aF l)=Oo D:=by
 have e:=jJ (k:=l) rfl;rw[e.1,e.2.1];generalize l.toList=a at h
 (rcases h with ⟨rfl,rfl⟩ | ⟨rfl,rfl⟩ | ⟨rfl,rfl⟩ | ⟨rfl,rfl⟩ | ⟨rfl,rfl⟩ | ⟨rfl,rfl⟩ | ⟨rfl,rfl⟩) <;> decide
theorem gM.body(R:gM T d)(r:iB T (ab T) (ab T).length)(H:dQ T (fa T)=(l,w))(B:fa T<w)(A:w<=T.length)(m:eU l.toList d.kind)(F:dX T w T.length=f)(D:d.We=f.takeWhile jb)(p:Pl)(b:(aX d t.s p).1=0):gM (T++[t]) (aX d t.s p).2:=by
 have y:d.label=if Oo d.kind=true then tS (T++[t]) (fa T) else⟨#[]⟩:=by rw[R.lab,fK T [t] _ (by omega)]
 rw[oE m]at *;by_cases n:(t.s.toList == [36,46])=true
 ·rw[RY n]at *;obtain⟨G,-⟩:=AI n;obtain⟨v,-⟩:=nz T t;rw[RY G,oq H B A m]at v;simp only at v;have i:bq (T++[t]) w=d.We:=by
   unfold bq;rw[Th A,sV _ t (fun u I=>?_) n,D,<-F,lW];have:=uF T w (by omega) u I;unfold bY at this;simp only[Bool.or_eq_false_iff]at this;exact this.1.1
  have C:dG (T++[t]) w:=⟨T.length,A,by simp,by rw[nN];unfold nB;rw[n];simp⟩;have c:=m.dep.1;have e:lm (ab T++[(⟨fa T,T.length+1,w,l⟩:Sm)]) (ab T).length=!((d.kind==7)||(d.kind==8)):=by rw[tC];exact CB m
  unfold l9 at *;split at b
  ·cases b
  ·next E =>
   rw[RU E];split at b
   ·cases b
   ·next k =>
    rw[RU k];simp only;cases a:((d.kind==7)||(d.kind==8))
    ·rw[a]at e;simp only[Bool.or_eq_false_iff]at a;have j:(aW d p).Wv=d.Wv++[⟨d.kind,d.label,d.We,d.Wp,p,0⟩]/\(aW d p).rbl=d.rbl:=by
      unfold aW nc nC;rw[a.1,a.2];simp only[Bool.false_eq_true,if_false];split <;> exact⟨rfl,rfl⟩
     refine R.kept r _ v e (fun o=>c o) ⟨d.kind,d.label,d.We,d.Wp,p,0⟩ rfl m ?_ i.symm C j.1 j.2 rfl rfl;show d.label=bN (T++[t]) ⟨fa T,T.length+1,w,l⟩;unfold bN;simp only;rw[Mm m];exact y
    ·rw[a]at e;have j:(aW d p).Wv=d.Wv/\(aW d p).rbl=d.rbl:=by
      unfold aW dW;rw[SL]at a;split
      ·exact⟨rfl,rfl⟩
      ·next q =>
       rw[RY (a.resolve_left q)];exact⟨rfl,rfl⟩
     refine R.other r _ v e (fun o=>by show o<=aP o l;rw[c];exact UX _) ?_ (R4 j.2) j.1 rfl rfl;show aP _ l=_;rw[c,R.hel.dep];show _=((aW d p).rbl.length:Int)
     rw[j.2]
 ·rw[RU n]at *;by_cases z:(t.s.toList == [36,61])=true/\(d.kind==5)=true/\d.Wi=false
  ·rw[RY z]at *;unfold ce at *;split at b
   ·cases b
   ·next g=>rw[RU g];exact R.Wj r (fC z.1 (by decide)) rfl rfl y
  ·rw[RU z]at *;cases x:dn t.s
   ·rw[x,RU (by simp)]at b;rw[RU (by simp)];split at b
    ·next g=>rw[RY g];exact R.Wj r (qG x) rfl rfl y
    ·next g =>
     rw[RU g];split at b
     ·next k=>rw[RY k];exact R.Wj r (qG x) rfl rfl y
     ·next k=>simp only at b;rw[b]at k;exact absurd rfl k
   ·rw[x,RY rfl]at b;cases b
theorem gM.step(o:ug T d)(n:sH T (ab T) d)(q:∀j,j<T.length->a9 T (ab T) j=0)(R:gM T d)(v:T.length<=100000)(p:Pl)(c:(aX d t.s p).1=0):gM (T++[t]) (aX d t.s p).2:=by
 obtain⟨k,-⟩:=AQ T v q;rcases o with ⟨g,a,b,f,m⟩ | ⟨g,a,b,f,m,y,x⟩ | ⟨A,l,B,a,i,w,u,r,f,b,z,m,C⟩
 ·have e:aX d t.s p=aw d t.s:=by unfold aX;rw[a];rfl
  rw[e]at c ⊢;exact R.first k (Cd n) g a c
 ·have e:aX d t.s p=aI d t.s:=by unfold aX;rw[a];rfl
  rw[e]at c ⊢;exact R.key k g a c
 ·exact R.body k a i w u r b p c
end
theorem cn(h:eU o D):(D==3)=(o == [36,101])/\(D==2)=(o == [36,102])/\(D==1)=(o == [36,100])/\pK D=((o == [36,97])||(o == [36,112])):=by
 (rcases h with ⟨rfl,rfl⟩ | ⟨rfl,rfl⟩ | ⟨rfl,rfl⟩ | ⟨rfl,rfl⟩ | ⟨rfl,rfl⟩ | ⟨rfl,rfl⟩ | ⟨rfl,rfl⟩) <;> decide
theorem tP:lp k=(List.range (lp k).length).map (av k):=by
 apply TY;intro n;rw[Sy];by_cases h:n<(lp k).length
 ·rw[Un h,RQ h];show _=some (av k n);unfold av;rw[RT,RQ h];rfl
 ·rw[SG (by omega),SG (by rw[Ul];omega)];rfl
theorem uH{m:Nat}(d:m=(lp b).length){p q:Nat->Bool}(f:∀j,j<b.length->p j=true->lm b j=true)(g:∀n,n<m->q n=p (av b n)):((List.range m).filter q).map (av b)=(List.range b.length).filter p:=by
 have a:(List.range b.length).filter p=(lp b).filter p:=by
  unfold lp;rw[VJ];apply fR;intro j c;cases h:p j
  ·rfl
  ·rw[f j c h];rfl
 rw[a,tP b,<-d,Wb];congr 1;apply fR;intro n e;exact g n e
theorem tu(h:x<=w)(p:Nat->Bool):(List.range w).filter (fun j=>decide (j<x)&&p j)=(List.range x).filter p:=by
 have e:List.range w=List.range x++(List.range (w-x)).map (x + ·):=by
  have:=@List.range_add x (w-x);rwa [show x+(w-x)=w by omega]at this
 have b:(List.range x).filter (fun j=>decide (j<x)&&p j)=(List.range x).filter p:=fR (fun j a=>by rw[TH a,TP]);have c:((List.range (w-x)).map (x + ·)).filter (fun j=>decide (j<x)&&p j)=[]:=by
  rw[UN];intro j a;obtain⟨i,-,rfl⟩:=Tw.1 a;rw[TF (by omega)];simp
 rw[e,Tf,b,c,Su]
section
variable {T:List Tk} {d:Db}
theorem gM.held(R:gM T d)(a:d.Wv[w]?=some i)(b:pK i.kind=false)(c:x<d.Wv.length):fg d.Wv w x=(decide (av (ab T) w<av (ab T) x)&&aM (ab T) (av (ab T) w) (av (ab T) x)):=by
 have g:=(R8.1 a).1;have f:=R.hel.len;unfold fg;rw[a];simp only;by_cases h:w<x
 ·rw[TH h,TH (gD h (by omega)),R.hel.til w i a b x h (by omega)]
 ·have:¬av (ab T) w<av (ab T) x:=by
   by_cases e:w=x
   ·rw[e];omega
   ·have:=gD (S:=ab T) (n:=x) (a:=w) (by omega) (by omega);omega
  rw[TF h,TF this];rfl
theorem gM.get(R:gM T d)(a:w<d.Wv.length):∃s,d.Wv[w]?=some s/\eU (aq (ab T) (av (ab T) w)).k.toList s.kind/\s.label=bN T (aq (ab T) (av (ab T) w))/\s.We=bq T (aq (ab T) (av (ab T) w)).h:=by
 refine⟨d.Wv[w],RQ a,?_⟩;obtain⟨b,c,e,-⟩:=R.ct w _ (RQ a);exact⟨b,c,e⟩
theorem gM.symsAt(R:gM T d)(a:w<d.Wv.length):symsAt d.Wv w=bq T (aq (ab T) (av (ab T) w)).h:=by
 obtain⟨s,b,-,-,h⟩:=R.get a;unfold Go.Proofs.YtnbhnocdhbcbcaaGreat.symsAt;rw[b];exact h
theorem gM.syms(R:gM T d)(b:w<d.Wv.length):g9 d.Wv w=ub T (ab T) (av (ab T) w):=by
 have l:=R.hel.len;have a:=R.hel.at_ b;have f:((List.range d.Wv.length).filter (Aq d.Wv w)).map (av (ab T))=(List.range (av (ab T) w)).filter (xY (ab T) (av (ab T) w)):=by
  rw[<-tu (Te a)];refine uH l (fun j m h=>?_) (fun n c=>?_)
  ·unfold xY at h;simp only[Bool.and_eq_true]at h;unfold lm;rw[h.2.1];simp
  ·obtain⟨s,i,g,-,-⟩:=R.get c;unfold Aq xY;rw[i];simp only;rw[(cn g).1];cases e:((aq (ab T) (av (ab T) n)).k.toList == [36,101])
   ·simp
   ·have a:pK s.kind=false:=by
     rw[(cn g).2.2.2,cm e,cm e];decide
    rw[R.held i a b,TP,TP]
 unfold g9 eZ ub kt;rw[R.symsAt b,<-f,Vo];congr 1;apply dE;intro n c;exact R.symsAt (Sd.1 (SD.1 c).1)
def QH(T:List Tk)(S:List Sm):Prop:=∀j,j<S.length->((aq S j).k.toList == [36,102])=true->2<=(bq T (aq S j).h).length/\(bq T (aq S j).h).getD 1 ⟨#[]⟩=tS T ((aq S j).h+1)
theorem gM.hyps(R:gM T d)(F:QH T (ab T))(e:w<d.Wv.length):(aN d.Wv w).map (av (ab T))=aZ T (ab T) (av (ab T) w):=by
 have t:=R.hel.len;have b:=R.hel.at_ e;unfold aN eu aZ;rw[R.syms e,<-tu (Te b)];refine uH t (fun j x h=>?_) (fun n i=>?_)
 ·unfold tB at h;simp only[Bool.and_eq_true,Bool.or_eq_true]at h;unfold lm;rcases h.2.2 with h | h
  ·rw[h];simp
  ·rw[h.1];simp
 ·obtain⟨s,f,r,-,g⟩:=R.get i;have q:=R.hel.at_ i;obtain⟨v,l,y,m⟩:=cn r;unfold np tB qc;rw[f];simp only;rw[l];cases a:((aq (ab T) (av (ab T) n)).k.toList == [36,102])
  ·rw[RU (by simp),v];cases c:((aq (ab T) (av (ab T) n)).k.toList == [36,101])
   ·simp
   ·have b:pK s.kind=false:=(by rw[m,cm c,cm c];decide);rw[R.held f b e];simp
  ·have b:pK s.kind=false:=(by rw[m,cm a,cm a];decide);have c:((aq (ab T) (av (ab T) n)).k.toList == [36,101])=false:=(by rw[cm a];decide);obtain⟨o,p⟩:=F _ q a;have u:aL s=tS T ((aq (ab T) (av (ab T) n)).h+1):=by
    unfold aL;rw[RY ⟨by rw[l];exact a,by rw[g];exact o⟩,g,p]
   rw[RY rfl,R.held f b e,u,c,Ts,TP,Vg]
end
theorem IE(L:List Tk):∀i,i<(ly L).length->(ly L)[i]?=L[i]?.map (·.s):=by
 induction L with
 | nil=>intro i a;cases a
 | cons t L b =>
  intro i a;unfold ly at a ⊢;split
  ·next h=>rw[RY h]at a;cases a
  ·next h =>
   rw[RU h]at a;cases i with
   | zero=>rfl
   | succ i=>exact b i (by simpa using a)
theorem pQ(T:List Tk)(h i:Nat)(a:i<(bq T h).length):(bq T h).getD i ⟨#[]⟩=tS T (h+i):=by
 unfold bq at *;have:=IE (T.drop h) i a;unfold tS;rw[RT,this,Us,RT];cases T[h+i]? <;> rfl
section
variable {T:List Tk} {t:Tk} {d d':Db}
def vr(s:St):ByteArray:=s.We.getD 1 ⟨#[]⟩
structure sF(d:Db):Prop where
 fl:∀(n:Nat) (s:St),d.Wv[n]?=some s->s.kind=2->2<=s.We.length
 ds:∀(n m:Nat) (s u:St),d.Wv[n]?=some s->d.Wv[m]?=some u->s.kind=2->u.kind=2->n<m->(s.til=0∨m<s.til)->((vr s).toList==(vr u).toList)=false
 op:d.kind=2->2<=d.We.length->aJ d.Wq (d.We.getD 1 ⟨#[]⟩)=false
theorem gM.Wq(R:gM T d)(E:sH T (ab T) d)(F:sF d)(b:d.Wv[w]?=some i)(c:i.kind=2)(f:i.til=0):aJ d.Wq (vr i)=true:=by
 have n:=(R8.1 b).1;obtain⟨m,-,e,-⟩:=R.ct w i b;have g:pK i.kind=false:=by rw[c];rfl
 have a:=R.hel.now b g;rw[f]at a;have j:=R.hel.at_ n;have o:((aq (ab T) (av (ab T) w)).k.toList == [36,102])=true:=by rw[<-(cn m).2.1,c];rfl
 rw[E.typ.l,oo,SQ];refine⟨av (ab T) w,SD.2 ⟨Sd.2 j,a.symm⟩,?_⟩;unfold GD;rw[RY o,rS];have p:=F.fl w i b c;unfold vr;rw[e,pQ T _ 1 (by rw[<-e];omega)];simp
theorem sF.same(F:sF d)(b:d'.Wv=d.Wv)(e:d'.kind=2->2<=d'.We.length->aJ d'.Wq (d'.We.getD 1 ⟨#[]⟩)=false):sF d' :=
 ⟨fun n s a=>by rw[b]at a;exact F.fl n s a,fun n m s u a c=>by rw[b]at a c;exact F.ds n m s u a c,e⟩
theorem sF.ended(F:sF d)(b:Nat)(p:d'.Wv=ki d.Wv b)(r:d'.kind=0):sF d':=by
 have q:∀(n:Nat) (s:St),d'.Wv[n]?=some s->∃v,d.Wv[n]?=some v/\s.kind=v.kind/\s.We=v.We/\(s.til=v.til∨(v.til=0/\s.til=d.Wv.length)):=fun n s a=>by
  rw[p]at a;obtain⟨v,f,A⟩:=oj a;refine⟨v,f,?_⟩;rw[A];split
  ·unfold lz;split
   ·next c=>exact⟨rfl,rfl,RZ ⟨c.1,rfl⟩⟩
   ·exact⟨rfl,rfl,R4 rfl⟩
  ·exact⟨rfl,rfl,R4 rfl⟩
 refine⟨fun n s a j=>?_,fun n m s u a z j k l y=>?_,fun h=>by rw[r]at h;cases h⟩
 ·obtain⟨v,f,g,i,-⟩:=q n s a;rw[i];exact F.fl n v f (by rw[<-g];exact j)
 ·obtain⟨v,f,g,i,e⟩:=q n s a;obtain⟨x,o,t,w,-⟩:=q m u z;have B:=(R8.1 o).1;unfold vr;rw[i,w];refine F.ds n m v x f o (by rw[<-g];exact j) (by rw[<-t];exact k) l ?_;rcases e with e | ⟨e,-⟩
  ·rw[<-e];exact y
  ·exact R4 e
theorem sF.more(R:gM T d)(E:sH T (ab T) d)(F:sF d)(u:St)(l:u.kind=2->2<=u.We.length/\aJ d.Wq (vr u)=false)(o:d'.Wv=d.Wv++[u])(p:d'.kind=0):sF d':=by
 have q:∀(n:Nat) (s:St),d'.Wv[n]?=some s->(n<d.Wv.length/\d.Wv[n]?=some s)∨(n=d.Wv.length/\s=u):=fun n s a=>by
  rw[o]at a;by_cases g:n<d.Wv.length
  ·rw[Si g]at a;exact R4 ⟨g,a⟩
  ·have:=(R8.1 a).1;rw[R9]at this;have:n<d.Wv.length+1:=this;rw[Sf (by omega),show n-d.Wv.length=0 by omega]at a;cases a
   exact RZ ⟨by omega,rfl⟩
 refine⟨fun n s a b=>?_,fun n m s x a A b c k v=>?_,fun h=>by rw[p]at h;cases h⟩
 ·rcases q n s a with ⟨-,h⟩ | ⟨-,rfl⟩
  ·exact F.fl n s h b
  ·exact(l b).1
 ·rcases q m x A with ⟨y,t⟩ | ⟨y,rfl⟩
  ·rcases q n s a with ⟨-,f⟩ | ⟨g,-⟩
   ·exact F.ds n m s x f t b c k v
   ·omega
  ·rcases q n s a with ⟨-,f⟩ | ⟨g,-⟩
   ·have w:=R.hel.le n s f;have r:s.til=0:=(by omega);have i:=R.Wq E F f b r;have j:=(l c).2;cases z:((vr s).toList==(vr x).toList)
    ·rfl
    ·have e:(vr s).toList=(vr x).toList:=(by simpa using z);unfold aJ at i j;rw[e]at i;rw[i]at j;cases j
   ·omega
theorem sF.step(y:ug T d)(x:sH T (ab T) d)(R:gM T d)(F:sF d)(p:Pl)(f:(aX d t.s p).1=0):sF (aX d t.s p).2:=by
 rcases y with ⟨E,i,j,m,w⟩ | ⟨E,i,j,m,w,I,H⟩ | ⟨K,v,B,i,G,O,D,N,m,j,J,w,M⟩
 ·have e:aX d t.s p=aw d t.s:=by unfold aX;rw[i];rfl
  rw[e]at f ⊢;unfold aw bO cI at *;have k:∀d':Db,d'.Wv=d.Wv->d'.kind≠2->sF d':=fun d' l n=>F.same l (fun h=>absurd h n)
  repeat' split
  all_goals first
   | exact F
   | exact F.ended _ rfl i
   | exact k _ rfl (by rw[show _=_ from i];decide)
   | exact k _ rfl (by simp only;decide)
   | exact k _ rfl (by simp only;rw[i];decide)
   | exact k _ rfl (by show d.kind≠2;rw[i];decide)
 ·have e:aX d t.s p=aI d t.s:=by unfold aX;rw[i];rfl
  rw[e]at f ⊢;have k:∀d':Db,d'.Wv=d.Wv->d'.We=d.We->sF d':=fun d' l n=>F.same l (fun _ h=>by rw[n,j]at h;simp at h);unfold aI
  repeat' split
  all_goals exact k _ rfl rfl
 ·rw[oE D]at f ⊢;by_cases u:(t.s.toList == [36,46])=true
  ·rw[RY u]at f ⊢;unfold l9 at *;split at f
   ·cases f
   ·next r =>
    rw[RU r];split at f
    ·cases f
    ·next A =>
     rw[RU A];simp only;cases c:((d.kind==7)||(d.kind==8))
     ·simp only[Bool.or_eq_false_iff]at c;have o:(aW d p).Wv=d.Wv++[⟨d.kind,d.label,d.We,d.Wp,p,0⟩]:=by
       unfold aW nc nC;rw[c.1,c.2];simp only[Bool.false_eq_true,if_false];split <;> rfl
      refine sF.more R x F ⟨d.kind,d.label,d.We,d.Wp,p,0⟩ (fun b=>?_) o rfl;replace b:d.kind=2:=b;have a:2<=d.We.length:=by
       unfold mA at r;rw[RY (RZ (by rw[b];rfl))]at r;omega
      exact⟨a,F.op b a⟩
     ·have o:(aW d p).Wv=d.Wv:=by
       unfold aW dW;rw[SL]at c;split
       ·rfl
       ·next q=>rw[RY (c.resolve_left q)]
      exact F.same o (fun h=>by cases h)
  ·rw[RU u]at f ⊢;split
   ·unfold ce;split <;> exact F.same rfl F.op
   ·split
    ·exact F
    ·split
     ·exact F.same rfl F.op
     ·split
      ·next C =>
       refine F.same rfl (fun b a=>?_);replace b:d.kind=2:=b;replace a:2<=(d.We++[t.s]).length:=a;rw[R9]at a;replace a:2<=d.We.length+1:=a;have g:bh d t.s=0:=by simpa using C
       unfold bh at g;rw[b,RU (by decide),RU (by decide),RU (by decide),RU (by omega),RY (by rfl)]at g;unfold fQ at g;split at g
       ·cases g
       ·next L =>
        split at g
        ·cases g
        ·split at g
         ·cases g
         ·next z =>
          show aJ d.Wq ((d.We++[t.s]).getD 1 ⟨#[]⟩)=false;have l:(d.We++[t.s]).getD 1 ⟨#[]⟩=t.s:=by
           rw[RT,Sf (by omega),show 1-d.We.length=0 by omega];rfl
          rw[l];simpa using z
      ·exact F
theorem gM.flo(R:gM T d)(F:sF d):QH T (ab T):=by
 intro j i c;have a:j∈lp (ab T):=SD.2 ⟨Sd.2 i,by unfold lm;rw[c];simp⟩;rw[tP]at a;obtain⟨n,b,rfl⟩:=Tw.1 a;have b:n<d.Wv.length:=by rw[R.hel.len];exact Sd.1 b
 obtain⟨s,k,f,-,g⟩:=R.get b;have l:s.kind=2:=by
  have:=(cn f).2.1;rw[c]at this;simpa using this
 have e:=F.fl n s k l;rw[g]at e;exact⟨e,pQ T _ 1 (by omega)⟩
end
end Go.Proofs.YtnbhnocdhbcbcaaGreat
