import Derived.Test.YtnbhnocdhbcbcaaGreatU27
namespace Go.Proofs.YtnbhnocdhbcbcaaGreat
open Go.RowKit Tryz
open Value IntKind Ending
set_option maxHeartbeats 0
variable{b:List ci}{H:Int->Xs}{f x:Nat}{S:Xv}{y:uP}(w:List ci)(l:Int->Xs)(v:Xv)(n:Nat->Xt)(T:Nat)(k:Xv)(d a:Xt)
def Fb(P:List ci)(lab:Int->Xs):Nat->Nat->Xt
 | 0,_=>[]
 | f+1,i=>if(aQ P i).ref=-2 then Fb P lab f (aQ P i).back else((dy P i).map (Fb P lab f)).flatten++[lab (aQ P i).ref]
def eZ(P:List ci)(lab:Int->Xs)(i:Nat):Xt:=Fb P lab (i+1) i
def xn(P:List ci)(n:Nat):Prop:=∀i,i<n->((aQ P i).ref=-2->(aQ P i).back<i)/\0<=dJ P i
theorem Bd(h:xn b f)(a:Nat):∀g i,i<f->i<a->i<g->Fb b H a i=Fb b H g i:=by
 induction a with
 | zero=>intro g i _ c;omega
 | succ a d =>
  intro g i k m n;cases g with
  | zero=>omega
  | succ g =>
   obtain⟨c,j⟩:=h i k;rw[Fb,Fb];split
   ·next e=>have:=c e;exact d g _ (by omega) (by omega) (by omega)
   ·congr 2;apply V6;intro q l;have:=qV b i j q l;exact d g q (by omega) (by omega) (by omega)
theorem CN{lab:Int->Xs}(h:xn b f)(d:x<f):eZ b lab x=if(aQ b x).ref=-2 then eZ b lab (aQ b x).back else((dy b x).map (eZ b lab)).flatten++[lab (aQ b x).ref]:=by
 obtain⟨a,c⟩:=h x d;unfold eZ;rw[Fb];split
 ·next e=>have:=a e;exact Bd h _ _ _ (by omega) (by omega) (by omega)
 ·congr 2;apply V6;intro q g;have:=qV b x c q g;exact Bd h _ _ _ (by omega) (by omega) (by omega)
def tq(g:Nat->Xt)(K:Xv):Xt:=(K.reverse.map g).flatten
def yq(g:Nat->Xt):Xv->Xv
 | []=>[]
 | _ :: K=>yq g K++[(tq g K).length]
theorem LR:tq n (T :: k)=tq n k++n T:=by
 unfold tq;rw[Xe,UJ,WT];simp
theorem OO:tq n k=tq n (k.drop T)++((k.take T).reverse.map n).flatten:=by
 unfold tq;rw[<-WT,<-UJ,<-List.reverse_append,WF]
theorem yw(K:Xv):(yq n K).length=K.length:=by
 induction K with
 | nil=>rfl
 | cons k K a=>rw[yq,Uh,a];rfl
theorem KQ(a:Nat):∀K,a<=K.length->(yq n K).take (K.length-a)=yq n (K.drop a)/\(0<a->(yq n K).getD (K.length-a) 0=(tq n (K.drop a)).length):=by
 induction a with
 | zero=>intro K _;refine⟨?_,fun h=>by omega⟩;rw[Nat.sub_zero,VK,<-yw n K,Vk]
 | succ a f =>
  intro K h;cases K with
  | nil=>simp at h
  | cons k K =>
   rw[UK]at h;obtain⟨b,c⟩:=f K (by omega);rw[UK,List.drop_succ_cons,show K.length+1-(a+1)=K.length-a by omega,yq];have d:=yw n K;refine⟨by rw[Vg (by omega)];exact b,fun _=>?_⟩;rw[Uc];by_cases e:a=0
   ·subst e;rw[Nat.sub_zero,Ur (by omega),d,U3,VK];rfl
   ·rw[Uv (by omega),<-Uc];exact c (by omega)
structure Pi(P:List ci)(lab:Int->Xs)(i:Nat)(K:Xv)(q:uP):Prop where
 ch:qz P i K
 w:q.W=tq (eZ P lab) K
 th:q.th=yq (eZ P lab) K
 n:q.sp.length=i
 sp:∀j,j<i->uZ q.W (q.sp.getD j (0,0))=eZ P lab j/\(q.sp.getD j (0,0)).1<=(q.sp.getD j (0,0)).2/\(q.sp.getD j (0,0)).2<=q.W.length
theorem JZ(p:Nat×Nat)(h:p.2<=d.length):uZ (d++a) p=uZ d p:=by
 unfold uZ;by_cases b:p.1<=p.2
 ·rw[U9 (by omega),Vg (by rw[UX];omega)]
 ·rw[show p.2-p.1=0 by omega,V4,V4]
theorem MY:uZ (d++a) (d.length,(d++a).length)=a:=by
 unfold uZ;rw[List.drop_left,Uh,XV,Vk]
theorem Pi.next{a:Xv}{W X:Xt}(h:Pi b H f S y)(c:qz b (f+1) (f :: a))(d:y.W++X=tq (eZ b H) a++eZ b H f)(g:x=(tq (eZ b H) a).length)(m:W=y.W++X):Pi b H (f+1) (f :: a) ⟨W,y.sp++[(x,W.length)],yq (eZ b H) a++[x]⟩:=by
 subst m;refine⟨c,by rw[LR];exact d,by rw[yq,g],by rw[Uh,h.n];rfl,fun j o=>?_⟩;simp only;rw[Uc];by_cases e:j<f
 ·rw[Uv (by rw[h.n];exact e),<-Uc];obtain⟨i,k,l⟩:=h.sp j e;exact⟨by rw[JZ _ _ _ l];exact i,k,by rw[Uh];omega⟩
 ·have e:j=f:=by omega
  subst e;rw[Ur (by rw[h.n];exact Ue _),h.n,U3];simp only[List.getElem?_cons_zero,Option.getD_some];rw[g,d];exact⟨MY _ _,by rw[Uh];omega,Ue _⟩
theorem Pi.step{c:Nat->Nat}{lb:Nat->Xs}{i:Nat}{s:jg}(h:Pi b H i S y)(o:xn b f)(q:i<f)(a:(aQ b i).need<=S.length)(A:s.Yw=3->(aQ b i).ref=-2/\(aQ b i).back=s.Yd/\(aQ b i).need=0)(z:s.Yw≠3->(aQ b i).ref≠-2/\(aQ b i).need=c s.Yd/\H (aQ b i).ref=lb s.Yd):Pi b H (i+1) (i :: S.drop (aQ b i).need) (xg c lb y s):=by
 obtain⟨t,u,v,x⟩:=rB (aQ b i).need i S h.ch a;have d:qz b (i+1) (i :: S.drop (aQ b i).need):=⟨rfl,t,by rw[nO];exact u,v⟩;have g:=CN (lab:=H) o q;unfold xg;by_cases e:s.Yw=3
 ·obtain⟨j,k,n⟩:=A e;have p:=(o i q).1 j;rw[k]at p;rw[j,Uf rfl,k]at g;rw[n,VK]at d ⊢;rw[Uf (by rw[e];rfl),(h.sp s.Yd p).1,h.th];have l:y.W++eZ b H s.Yd=tq (eZ b H) S++eZ b H i:=by rw[g,<-h.w]
  exact h.next d l (by rw[h.w]) rfl
 ·obtain⟨j,k,n⟩:=z e;have m:(s.Yw==3)=false:=Uz.2 e;rw[Ud (by rw[m];simp)];have C:dy b i=(S.take (aQ b i).need).reverse:=by unfold dy;rw[x,UE]
  rw[Ud j,C,n]at g;have l:y.W++[lb s.Yd]=tq (eZ b H) (S.drop (aQ b i).need)++eZ b H i:=by
   rw[g,<-Vs,<-OO,<-h.w]
  have B:jz (c s.Yd) y.W.length y.th=((tq (eZ b H) (S.drop (aQ b i).need)).length,yq (eZ b H) (S.drop (aQ b i).need)):=by
   obtain⟨D,E⟩:=KQ (eZ b H) (aQ b i).need S a;unfold jz;rw[<-k,h.th,yw];by_cases r:(aQ b i).need=0
   ·rw[Uf (Us r),r,VK,h.w]
   ·rw[Ud (by omega),D,E (by omega)]
  rw[B];have:=h.next d l rfl rfl;rw[Uh]at this;exact this
def ou(P:List ci)(lab:Int->Xs)(L:Xv):Xt:=(L.map (eZ P lab)).flatten
theorem Be(h:T<v.length):ou w l (v.take (T+1))=ou w l (v.take T)++eZ w l v[T]:=by
 unfold ou;rw[UY h,UJ,WT];simp
theorem Jw:(ou w l (v.take T)).length<=(ou w l v).length:=by
 have:ou w l v=ou w l (v.take T)++ou w l (v.drop T):=by
  unfold ou;rw[<-WT,<-UJ,WF]
 rw[this,Uh];omega
def mT(n:Nat):Nat:=if 64<n then 65 else n
set_option maxRecDepth 100000
theorem Oq(Y:Xu)(b:Nat)(y:Int)(I:Xs)(J H:Int)(hl:w.length<=100000000)(hN:Fj w)(hW:xn w w.length)(f:Nat):∀(i:Nat) (q:World),i<f->i<w.length->cN q Y 6 lp w ->
  Calls prog 70 #[agg #[slice Y w.length b,int i64 y,string I,int i64 J,int i64 H],int i64 i] q fun e K=>e=returned (int i64 (mT (eZ w l i).length:Nat))/\ae [] q K:=by
 induction f with
 | zero=>intro i q h;omega
 | succ f ih =>
  intro i q an P hS;have C:Xr _:=ih;clear ih;obtain⟨W,O⟩:=bm (q.alloc (.cells #[slice Y w.length b,int i64 y,string I,int i64 J,int i64 H] 122));have L:=fE O.o;have u:Xr _:=fg O.o;have N:Xr _:=hS.Yh u.o;have ap:(i:Int)<w.length:=by omega
  obtain⟨g,rfl,ac,q0,q1,-⟩:=cN.step N.o i P;have HB:Xr _:=L;obtain⟨p0,p1,p2,p3,p4⟩:=lr L;have a:=CN (lab:=l) hW P;obtain⟨A,d⟩:=hW i P;cases hr:((aQ w i).ref == -2)
  ·have p:¬(aQ w i).ref=-2:=(by simpa using hr);rw[Ud p]at a;have HT:Xr ((eZ w l i).length=(ou w l (dy w i)).length+1):=cM (by rw[a,Uh];rfl);have F:Xr _:=vy w (some ⟨g,0,none⟩) b y I J H i W hl hN P N.o d;have E:Xr ((dy w i).length=(aQ w i).need):=vA w i;have T:Xr _:=qV w i d;have af:(dy w i).length<=100000:=by rw[E.o];exact hN i
   generalize (eZ w l i).length=n at *;generalize (aQ w i).ref=r at *;generalize dy w i=R at *;rw[<-E.o]at F;clear hS L a A d q1;have X:Xr (∀k,(ou w l (R.take k)).length<=(ou w l R).length):=fun k=>Jw w l R k;go_enter func70,ntmps70;(go_upto_region 1 with fail);rw[O.o];(go_upto_region 5 with (go_at_call 103;refine Ug F.o ?_;rintro e w1 ⟨g1,rfl,x1,k1⟩));have s:Xr _:=k1;have U:Xr _:=x1.src;clear p0 p1 p2 p3 p4 q0 ac x1 k1;go_wp2
   go_loopg [5,7] R.length (fun gk nv kv wr=>∃(k m:Nat),k<=R.length/\gk=R.length-k/\nv=int i64 m/\kv=int i64 k/\m<=200/\Xr (mT m=mT ((ou w l (R.take k)).length+1))/\Xr (ae [] w1 wr))
   ·exact⟨0,1,by omega,rfl,rfl,rfl,by omega,rfl,ae.refl _ _⟩
   obtain⟨k,m,hk,ai,rfl,rfl,hm,S,D⟩:=hrel;have v:Xr (ae [] q wr):=u.o.trans (s.o.trans D.o);rcases kn k R.length with ⟨j,ar⟩ | ⟨j,az⟩
   ·by_cases G:m<=64
    ·have B:(m:Int)<=64:=(by omega);obtain⟨gr,eg,al,cr⟩:=(qA.Yh U.o D.o) k _ (Ub j);cases eg
     have aS:=T.o R[k] (Uu j);have BR:=(s.o.trans D.o).get HB.o (by simp);obtain⟨r0,r1,r2,r3,r4⟩:=lr BR;have Q:Xr (∀c,ae [] wr c->Calls prog 70 #[agg #[slice (some ⟨g,0,none⟩) w.length b,int i64 y,string I,int i64 J,int i64 H],int i64 R[k]] c fun e K=>e=returned (int i64 (mT (eZ w l R[k]).length:Nat))/\ae [] c K):=fun c kx=>C.o R[k] c (by omega) (by omega) (cN.Yh N.o ((s.o.trans D.o).trans kx));have V:Xr (mT (m+mT (eZ w l R[k]).length)=mT ((ou w l (R.take (k+1))).length+1)):=by
      show _=_;rw[Be w l R k j,Uh];have:=S.o;unfold mT at this ⊢;split at this <;> split at this <;> (repeat' split) <;> omega
     have ad:mT (eZ w l R[k]).length<=65:=by unfold mT;split <;> omega
     generalize mT (eZ w l R[k]).length=z at *;generalize R[k]=rk at *;clear BR;(go_upto_region 8 with fail);go_region_with (go_at_call 70;refine(Q.o _ (by exact bM.drew)).mono ?_;rintro e w9 ⟨rfl,k9⟩)
     all_goals
      have t:Xr (ae [] w1 w9):=D.o.trans (bM.drew.trans k9);go_wp2;go_roundg (R.length-(k+1))
      ·exact⟨k+1,m+z,by omega,rfl,by go_num,by go_num,by omega,V,t⟩
      omega
    ·have B:¬(m:Int)<=64:=(by omega);have ax:(m:Int) > 64:=(by omega);have M:Xr ((65:Int)=(mT n:Nat)):=by
      show _=_;have Z:=S.o;have h2:=X.o k;have h3:=HT.o;unfold mT at Z ⊢;rw[Uf (by omega)]at Z;split at Z
      ·rw[Uf (by omega)];rfl
      ·omega
     go_wp2;go_ret;exact⟨T0 M.o,v.o⟩
   ·have M:Xr (mT m=mT n):=by
     show _=_;rw[S.o,HT.o,VG (by omega)]
    by_cases G:m<=64
    ·have B:¬(m:Int) > 64:=(by omega);have x:Xr ((m:Int)=(mT n:Nat)):=cM (by rw[<-M.o];unfold mT;rw[Ud (by omega)]);go_wp2;go_ret;exact⟨T0 x.o,v.o⟩
    ·have B:(m:Int) > 64:=(by omega);have x:Xr ((65:Int)=(mT n:Nat)):=cM (by rw[<-M.o];unfold mT;rw[Uf (by omega)];rfl);go_wp2;go_ret;exact⟨T0 x.o,v.o⟩
  ·have p:(aQ w i).ref=-2:=(by simpa using hr);rw[Uf p]at a;have ag:=A p;have Q:Xr (∀c,ae [] W c->Calls prog 70 #[agg #[slice (some ⟨g,0,none⟩) w.length b,int i64 y,string I,int i64 J,int i64 H],int i64 (aQ w i).back] c fun e K=>e=returned (int i64 (mT (eZ w l i).length:Nat))/\ae [] c K):=fun c kx=>by
    rw[a];exact C.o _ c (by omega) (by omega) (cN.Yh N.o kx)
   generalize mT (eZ w l i).length=z at *;generalize (aQ w i).back=bk at *;generalize (aQ w i).ref=r at *;clear hS L a A d;go_enter func70,ntmps70;(go_upto_region 1 with fail);rw[O.o];(go_upto_region 2 with fail);go_region_with (go_at_call 70;refine(Q.o _ (by exact bM.drew)).mono ?_;rintro e w9 ⟨rfl,k9⟩)
   all_goals
    have t:Xr (ae [] q w9):=u.o.trans (bM.drew.trans k9);go_wp2;go_ret;exact⟨rfl,t.o⟩
end Go.Proofs.YtnbhnocdhbcbcaaGreat
