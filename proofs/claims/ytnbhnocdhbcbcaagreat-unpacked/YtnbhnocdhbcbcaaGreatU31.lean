import Derived.Deep.RegionHeld3
import Derived.Deep.RegionLaw
import Derived.Deep.CutRange
import Derived.Test.YtnbhnocdhbcbcaaGreatU27
import Derived.Test.YtnbhnocdhbcbcaaGreatU29
namespace Go.Proofs.YtnbhnocdhbcbcaaGreat
open Go.RowKit Tryz
open Value IntKind Ending
set_option maxHeartbeats 0
variable{ys:Nat->Bool}{w S o y7:Nat}{N:List Tk}{y5:List iH}{y9:List St}{y6:Nat->Hd}{H D:World}{y2:Xv}{i:Fs}{I:Option Nat}{L z3:Hd}{ya:Int}{z0 z1:Xs}{d:Nat×Nat->It}{y0:Nat×Nat}{x1 yt:ew}{yu:List Value}{y1:Program}{yv:Array Oper}{z4:Oper}{y3:Act}{yy:Exit->Act->World->Prop}(M:Nat)(yd:Fs)(c u:Xs)(y:Fs)(z2:Hd)(y4:Nat)(p:List Tk)(s:List Sm)(b:Nat)(z6:Option Nat)(zt:Xs)(k:List iH)(t:Xu)(T:Nat)(yz yf yg yr:Value)(x:World)(g:Nat×Nat->It)
def Q9(RS:List iH)(lab:Xs)(a:Nat):Bool:=(bne (eK RS a).Yi 0)&&((eK RS a).Yx.toList==lab.toList)
def JI(RS:List iH)(lab:Xs):Option Nat:=(List.range RS.length).find? (Q9 RS lab)
theorem FH(c:S<w)(a:∀i,i<S->ys i=false)(h:ys S=true):(List.range w).find? ys=some S:=by
 rw[Xl];refine⟨h,S,by rw[VN];exact c,by rw[WX],fun j b=>?_⟩;rw[WX,a j b];rfl
theorem Nd(a:∀i,i<w->ys i=false):(List.range w).find? ys=none:=by
 rw[U8];intro i b;rw[a i (Up.1 b)];simp
theorem Mz(a:x.heap[b]?=some (.cells #[yz,bool false,yf,yg,yr] 85)) :
  Calls prog 62 #[pointer (some ⟨b,0,none⟩),string zt] x fun e c=>e=returned (tuple #[int i64 0,int i64 7])/\c=x:=by
 obtain⟨-,d,-⟩:=lr a;clear a;go_enter func62,ntmps62;go_wp2;exact Um (v:=tuple #[int i64 0,int i64 7]) (by simp[results,results62,go_sem]) rfl ⟨rfl,rfl⟩
def Pd(RS:List iH)(lab:Xs)(w:World)(e:Ending)(w':World):Prop:=e=returned (tuple #[int i64 ((JI RS lab).getD 0:Nat),int i64 (if(JI RS lab).isSome=true then 0 else 8)])/\w'=w
set_option maxRecDepth 100000
theorem My(v:x.heap[b]?=some (.cells #[yf,bool true,yg,yr,slice t k.length T] 85))(s:cN x t 6 ln k)(J:k.length<=100000) :
  Calls prog 62 #[pointer (some ⟨b,0,none⟩),string zt] x fun e F=>Pd k zt x e F:=by
 obtain⟨-,O,-,-,P⟩:=lr v;have w:=(show Xr (cN x t 6 ln k) from s);clear v s;go_enter func62,ntmps62;go_wp2
 go_loopg [6] k.length (fun g i wr=>∃a:Nat,a<=k.length/\g=k.length-a/\i=int i64 a/\Xr (∀i,i<a->Q9 k zt i=false)/\x=wr)
 ·exact⟨0,by omega,by omega,rfl,(fun i h=>by omega),rfl⟩
 obtain⟨a,I,H,rfl,f,rfl⟩:=hrel;rcases kn a k.length with ⟨c,B⟩ | ⟨c,-⟩
 ·have q:k[a]?=some (eK k a):=by unfold eK;rw[Uc,Ub c];rfl
  obtain⟨G,rfl,z,m⟩:=w.o a _ q;have p:=m 0 _ rfl;have y:=m 1 _ rfl;rw[VD]at p;have d:Xr (Q9 k zt a=((bne (eK k a).Yi 0)&&((eK k a).Yx.toList==zt.toList))):=rfl;clear m q;generalize eK k a=r at *;obtain⟨D,E,N,L,M,K⟩:=r;simp only at d p y;cases n:(E != 0)
  ·have j:Xr (∀i,i<a+1->Q9 k zt i=false):=fun i A=>by
    by_cases e:i=a
    ·rw[e,d.o,n];rfl
    ·exact f.o i (by omega)
   go_wp2;go_roundg (k.length-(a+1))
   ·exact⟨a+1,by omega,rfl,by go_num,j,rfl⟩
   omega
  ·cases u:(D.toList==zt.toList)
   ·have j:Xr (∀i,i<a+1->Q9 k zt i=false):=fun i A=>by
     by_cases e:i=a
     ·rw[e,d.o,n,u];rfl
     ·exact f.o i (by omega)
    go_wp2;go_roundg (k.length-(a+1))
    ·exact⟨a+1,by omega,rfl,by go_num,j,rfl⟩
    omega
   ·have l:Xr (JI k zt=some a):=FH c f.o (by rw[d.o,n,u];rfl);go_wp2;exact Um (v:=tuple #[int i64 a,int i64 0]) (by simp[results,results62,go_sem]) rfl ⟨by rw[l.o];rfl,rfl⟩
 ·have e:a=k.length:=by omega
  subst e;have C:¬(k.length:Int)<k.length:=by omega
  have l:Xr (JI k zt=none):=Nd f.o;go_wp2;exact Um (v:=tuple #[int i64 0,int i64 8]) (by simp[results,results62,go_sem]) rfl ⟨by rw[l.o];rfl,rfl⟩
structure TA(T:List Tk)(S:List Sm)(RS:List iH):Prop where
 len:RS.length=S.length
 yes:∀a,a<S.length->aA (aq S a).k=true->(bne (eK RS a).Yi 0)=true/\(eK RS a).Yx=bD T (aq S a)
 no:∀a,a<S.length->aA (aq S a).k=false->(bne (eK RS a).Yi 0)=false
theorem gw.find{d:Db}(R:gw N d)(E:TA N (aa N) y5)(b:Xs):JI y5 b=(lx d.Yt b).map (av (aa N)):=by
 have c:((List.range d.Yt.length).filter (oL d.Yt b)).map (av (aa N))=(List.range (aa N).length).filter (Q9 y5 b):=by
  refine vv R.hel.len (fun j o h=>?_) (fun n f=>?_)
  ·unfold Q9 at h;simp only[Bool.and_eq_true]at h;cases a:aA (aq (aa N) j).k
   ·rw[E.no j o a]at h;cases h.1
   ·unfold aA at a;simp only[Bool.or_eq_true]at a;unfold lM;rcases a with a | a <;> rw[a] <;> simp
  ·obtain⟨s,q,m,p,-⟩:=R.get f;have e:=R.hel.at_ f;unfold oL Q9;rw[q];simp only;have g:=(cn m).2.2.2;cases a:aA (aq (aa N) (av (aa N) n)).k
   ·rw[E.no _ e a];unfold aA at a;rw[g,a];simp
   ·obtain⟨i,l⟩:=E.yes _ e a;rw[i,l];unfold aA at a;rw[g,a,p];simp
 unfold JI lx;rw[E.len,<-List.head?_filter,<-c,List.head?_map,List.head?_filter]
theorem Ha(P:List ci)(a:Xs)(t:Tk):∀(f k:Nat) (M:List Xt),(bne (oh p s T P a t f k M).Yi 0)=true/\(oh p s T P a t f k M).Yx=a:=by
 intro f
 induction f with
 | zero =>
  intro k M;unfold oh tu
  repeat' split
  all_goals exact⟨rfl,rfl⟩
 | succ f b =>
  intro k M;unfold oh
  repeat' split
  all_goals first
   | exact⟨rfl,rfl⟩
   | exact b _ _
theorem CG(a:jW)(t:Tk):(bne (lI p s T a t).Yi 0)=true/\(lI p s T a t).Yx=bD p (aq s T):=by
 unfold lI;split
 ·exact⟨rfl,rfl⟩
 ·split
  ·exact⟨rfl,rfl⟩
  ·exact Ha p s T _ _ t _ _ _
theorem AJ:(aA (aq s T).k=true->(bne (mY p s (Cq p s) T).Yi 0)=true/\(mY p s (Cq p s) T).Yx=bD p (aq s T))/\(aA (aq s T).k=false->(bne (mY p s (Cq p s) T).Yi 0)=false):=by
 unfold mY aA;cases a:Ny s T
 ·cases b:mG s T
  ·unfold Ny at a;unfold mG at b;rw[a,b];exact⟨(fun h=>by cases h),fun _=>rfl⟩
  ·unfold mG at b;rw[b,X0];refine⟨fun _=>?_,fun h=>by cases h⟩;exact CG p s T _ _
 ·unfold Ny at a;rw[a,Wh];exact⟨fun _=>⟨rfl,rfl⟩,fun h=>by cases h⟩
theorem pI.tell{S:List Sm}{i:List (jW×Hd)}(h:pI S i ((List.range S.length).map (mY N S (Cq N S))) y5 S.length):TA N S y5:=by
 have o:y5.length=S.length:=by rw[h.len,Uy,VN]
 have d:∀a,a<S.length->eK ((List.range S.length).map (mY N S (Cq N S))) a=mY N S (Cq N S) a:=fun a b=>by
  unfold eK;rw[Uc,UL,V7 b];rfl
 have f:∀a,a<S.length->(eK y5 a).Yx=(mY N S (Cq N S) a).Yx/\(bne (eK y5 a).Yi 0)=(bne (mY N S (Cq N S) a).Yi 0):=fun a b=>by
  by_cases c:(eK ((List.range S.length).map (mY N S (Cq N S))) a).Yi=4/\qm S i ((List.range S.length).map (mY N S (Cq N S))) a
  ·have e:=h.yes a b c.1 c.2;have j:=c.1;rw[d a b]at e j;rw[e];exact⟨rfl,by simp only;rw[j];rfl⟩
  ·rw[h.no a b c,d a b];exact⟨rfl,rfl⟩
 refine⟨o,fun a b g=>?_,fun a b g=>?_⟩
 ·obtain⟨k,l⟩:=f a b;obtain⟨m,n⟩:=(AJ N S a).1 g;exact⟨by rw[l];exact m,by rw[k];exact n⟩
 ·rw[(f a b).2];exact(AJ N S a).2 g
def wn(RS:List iH):List iH:=RS.filter (fun r=>bne r.Yi 0)
theorem Ok(r:iH):∀u∈ln r,u.oneCell'=true:=by
 intro u a;simp only[ln,List.mem_cons,List.not_mem_nil,or_false]at a;rcases a with rfl | rfl | rfl | rfl | rfl | rfl <;> rfl
set_option maxRecDepth 512
theorem Lw(a:x.heap[T]?=some (.cells #[yz,bool false,yf,yg,yr] 85)) :
  Calls prog 23 #[pointer (some ⟨T,0,none⟩)] x fun e b=>e=returned (slice none 0 0)/\b=x:=by
 obtain⟨-,c,-⟩:=lr a;clear a;go_enter func23,ntmps23;go_wp2;go_ret;exact⟨rfl,rfl⟩
def Pf(RS:List iH)(w:World)(e:Ending)(w':World):Prop:=∃h',e=returned (slice h'.ao (wn RS).length h'.cap)/\ip w w' h' (gD (wn RS))
set_option maxRecDepth 100000
theorem Lv(F:x.heap[b]?=some (.cells #[yf,bool true,yg,yr,slice t k.length T] 85))(O:cN x t 6 ln k)(hl:k.length<=100000) :
  Calls prog 23 #[pointer (some ⟨b,0,none⟩)] x fun e w'=>Pf k x e w':=by
 obtain⟨-,v1,-⟩:=lr F;have S:Xr _:=F;have R:=(show Xr (cN x t 6 ln k) from O);have B:Xr (ip x x ⟨none,0⟩ (gD (wn (k.take 0)))):=⟨Uj _ _ _ _,(by intro a P;cases P),ae.refl _ _⟩;obtain⟨iR,G,s,u,v⟩:=UC IV;clear F O;go_enter func23,ntmps23;go_wp2;clear v1
 go_loopg [3,4] k.length (fun g o i wr=>∃(a:Nat) (d:Hd) (L:List iH),a<=k.length/\g=k.length-a/\o=slice d.ao L.length d.cap/\i=int i64 a/\L.length<=a/\Xr (L=wn (k.take a))/\Xr (ip x wr d (gD L)))
 ·exact⟨0,⟨none,0⟩,[],by omega,rfl,rfl,rfl,Ue _,rfl,B⟩
 obtain⟨a,d,L,P,hg,rfl,rfl,ac,w,m⟩:=hrel;have C:Xr _:=(m.o.Yu.get S.o (by simp));obtain⟨-,-,-,-,v4⟩:=lr C.o;rcases kn a k.length with ⟨j,af⟩ | ⟨j,-⟩
 ·obtain⟨g0,rfl,ad,f⟩:=(cN.Yh R.o m.o.Yu) a _ (Ub j);have N:=f 0 _ rfl;have U:=f 1 _ rfl;have V:=f 2 _ rfl;have W:=f 3 _ rfl;have X:=f 4 _ rfl;have Y:=f 5 _ rfl;rw[VD]at N;have c:Xr (wn (k.take (a+1))=L++(if(bne k[a].Yi 0)=true then [k[a]] else [])):=by
   show _=_;rw[w.o];unfold wn;rw[WG,Ub j,Vi];congr 1;cases h:(bne k[a].Yi 0) <;> simp[h]
  clear f;generalize k[a]=r at *;obtain⟨J,y,M,I,K,H⟩:=r;simp only at c N U V W X Y;cases Q:(y != 0)
  ·have z:Xr (L=wn (k.take (a+1))):=(by show _=_;rw[c.o,Q,Ud (by simp),UE]);go_wp2;go_roundg (k.length-(a+1))
   ·exact⟨a+1,d,L,by omega,rfl,rfl,by go_num,by omega,z,m⟩
   omega
  ·have z:Xr (L++[⟨J,y,M,I,K,H⟩]=wn (k.take (a+1))):=(by show _=_;rw[c.o,Q,Uf rfl]);have D:=m.o.YF;have E:Xr ((gD L).n<=900000000):=(by show L.length<=_;omega);have p:Xr ((gD L).n=L.length):=rfl;go_wp2_with (at_builtin;refine cI wr rfl (.tmp 28) (.tmp 36) 54 rfl iR (agg #[string ⟨#[]⟩,int i64 0,int i64 0,string ⟨#[]⟩,int i64 0,int i64 0]) 64 d (gD L) (ln ⟨J,y,M,I,K,H⟩) underlying54 G s u v rfl (show 0<6 by omega) (by rw[p.o];simp[Act.eval]) D E.o (by omega) (by simp[Act.eval]) rfl (Ok _) ?_;intro Z w5 l q;rw[gD,gU]at l;have A:Xr _:=m.o.Yr q l;clear l q);go_roundg (k.length-(a+1))
   ·exact⟨a+1,Z,L++[(⟨J,y,M,I,K,H⟩:iH)],by omega,rfl,by rw[p.o,Uh];rfl,by go_num,by rw[Uh];show _+1<=_;omega,z,A⟩
   omega
 ·have e:a=k.length:=by omega
  subst e;have ag:¬(k.length:Int)<k.length:=by omega
  rw[Vk]at w;go_wp2;go_ret;exact⟨d,by rw[<-w.o];rfl,by rw[<-w.o];exact m.o⟩
def wa(bo:Option Nat):Xu:=bo.map (fun b=>⟨b,0,none⟩)
def iW(lo hi:Nat):Xv:=List.range' lo (hi-lo)
theorem oC:o∈iW w S ↔ w<=o/\o<S:=by
 unfold iW;rw[List.mem_range'_1];omega
def SM(l:List St)(H:Nat->Hd)(q:Nat):Prop:=(H 6).Yv=some q∨∃i s,l[i]?=some s/\((H (10+2*i)).Yv=some q∨(H (11+2*i)).Yv=some q)
theorem SM.inH(h:SM y9 y6 w):gF y6 w:=by
 rcases h with h | ⟨i,s,-,h | h⟩
 ·exact⟨6,h⟩
 ·exact⟨_,h⟩
 ·exact⟨_,h⟩
theorem iy.ltU(h:iy H y9 y6)(u:SM y9 y6 w):w<H.heap.size:=by
 rcases u with u | ⟨i,s,a,u | u⟩
 ·exact h.YF.lt u
 ·exact(h.syms i s a).lt u
 ·exact(h.prfs i s a).lt u
theorem iy.keptU(h:iy H y9 y6)(k:ae y2 H D)(c:∀x,SM y9 y6 x->x∉y2):iy D y9 y6 :=
 ⟨h.YF.Ym (fun x a=>k.block x (h.YF.lt a) (c x (Us a))),fun i s b=>(h.syms i s b).Ym (fun x a=>k.block x ((h.syms i s b).lt a) (c x (Uo ⟨i,s,b,Us a⟩))),fun i s b=>(h.prfs i s b).Ym (fun x a=>k.block x ((h.prfs i s b).lt a) (c x (Uo ⟨i,s,b,Uo a⟩)))⟩
def Tu(w:World)(x:Nat)(fs:Fs)(lo hi:Nat):Option Nat->Prop
 | none=>kJ w x fs
 | some k=>(k<fs.length/\((gj fs k).1==0)=true)/\∃H g,nK w x fs (bP fs k).2.2.Yt H g/\(lo<=g/\g<hi)/\∀q,SM (bP fs k).2.2.Yt H q->lo<=q/\q<hi
structure ev(w:World)(x:Nat)(fs:Fs)(lo hi:Nat)(st:Option Nat):Prop where
 z:hi<=w.heap.size
 s:Tu w x fs lo hi st
def Tq(w:World)(v:Nat)(fs:Fs)(h:Hd)(lo hi:Nat):Option Nat->Prop
 | none=>∃p2 p3 p4,gx w v fs h false p2 p3 p4
 | some k=>zB w v fs h (bL fs k).1 lo hi
structure dM(w:World)(v:Nat)(fs:Fs)(h:Hd)(lo hi:Nat)(st:Option Nat):Prop where
 z:hi<=w.heap.size
 s:Tq w v fs h lo hi st
theorem ev.anyS(a:ev H w i S o I):lW H w i:=by
 have:=a.s;cases I with
 | none=>exact kJ.anyR this
 | some k=>obtain⟨-,b,g,h,-⟩:=this;exact h.anyR
theorem dM.anyS(a:dM H w i L S o I):∃b c d e,gx H w i L b c d e:=by
 have:=a.s;cases I with
 | none=>exact⟨false,this⟩
 | some k=>exact⟨true,zB.rvAt this⟩
theorem ev.Yu(a:ev H w i S o I)(k:ae y2 H D)(c:∀q,q∈w :: iW S o->q∉y2):ev D w i S o I:=by
 refine⟨Un a.z k.size,?_⟩;have l:=c w UN;have e:∀q,S<=q/\q<o->q∉y2:=fun q b=>c q (UM _ (oC.2 b));have:=a.s;cases I with
 | none=>exact kJ.Yu this k l
 | some j =>
  obtain⟨r,m,g,h,d,f⟩:=this;obtain⟨n,u,p,t⟩:=h.ver;exact⟨r,m,g,⟨⟨n,u,p,bO.Yu t k l⟩,h.Yt.keptU k (fun q b=>e q (f q b)),k.get h.arr (e g d),h.far⟩,d,f⟩
theorem dM.Yu(a:dM H w i L S o I)(k:ae y2 H D)(b:∀q,q∈w :: (L.Yv.toList++iW S o)->q∉y2):dM D w i L S o I:=by
 refine⟨Un a.z k.size,?_⟩;have d:=b w UN;have c:∀q,L.Yv=some q->q∉y2:=fun q g=>b q (UM _ (Vc _ (by rw[g];simp)));have l:∀q,S<=q->q<o->q∉y2:=fun q e f=>b q (UM _ (Vu _ (oC.2 ⟨e,f⟩)));have:=a.s;cases I with
 | none=>obtain⟨m,n,p,r⟩:=this;exact⟨m,n,p,r.keptS k d c⟩
 | some j=>exact zB.Yu this k d c l
theorem dM.Yh(a:dM H w i L S o I)(k:ae [] H D):dM D w i L S o I:=a.Yu k (fun _ _ b=>by cases b)
theorem ev.Yh(a:ev H w i S o I)(k:ae [] H D):ev D w i S o I:=a.Yu k (fun _ _ b=>by cases b)
theorem ev.lt(a:ev H w i S o I)(q:Nat)(b:q∈w :: iW S o):q<H.heap.size:=by
 rcases UH.1 b with e | e
 ·rw[e];exact a.anyS.lt
 ·have:=oC.1 e;have:=a.z;omega
theorem dM.lt{h:Hd}(a:dM H w i h S o I)(q:Nat)(b:q∈w :: (h.Yv.toList++iW S o)):q<H.heap.size:=by
 obtain⟨c,f,g,j,r⟩:=a.anyS;rcases UH.1 b with e | e
 ·rw[e];exact aj r.d
 ·rcases UG.1 e with e | e
  ·exact r.YF.lt (aR e)
  ·have:=oC.1 e;have:=a.z;omega
theorem ev.same(a:ev H w i S o I):∃b f l m,jy H w i b f l m/\∀c,jy c w i b f l m->ae [w] H c->ev c w i S o I:=by
 have h:=a.s;cases I with
 | none=>exact⟨_,_,_,_,h,fun c d k=>⟨Un a.z k.size,d⟩⟩
 | some j =>
  obtain⟨u,n,g,r,v,y⟩:=h;obtain⟨p,A,t,d⟩:=r.ver;refine⟨_,_,_,_,d,fun c e k=>⟨Un a.z k.size,u,n,g,⟨⟨p,A,t,e⟩,r.Yt.keptU k (fun q x=>by simp;exact r.far.2 q x.inH),k.get r.arr (by simp;exact Ne.symm r.far.1),r.far⟩,v,y⟩⟩
def na(c:Int)(st:Option Nat):Option Nat:=if c=0 then none else st
theorem rA(h:ya=0):na ya I=none:=Uf h
theorem tJ(h:ya≠0):na ya I=I:=Ud h
theorem Jd(h:(fM i z0 z1).1≠0):(fM i z0 z1).2=i:=by
 unfold fM at h ⊢;split
 ·rfl
 ·next c =>
  rw[Ud c]at h;split
  ·next a=>rw[Uf a]at h;exact absurd rfl h
  ·next a =>
   rw[Ud a]at h;split
   ·rfl
   ·next b=>rw[Ud b]at h;exact absurd rfl h
theorem Qv(h:ev x M y y4 b z6)(i:c.size<=1073741824)(g:u.size<=4294967296) :
  Calls prog 15 #[pointer (some ⟨M,0,none⟩),string c,string u] x fun e d=>e=returned (int i64 (fM y c u).1)/\ev d M (fM y c u).2 y4 b (na (fM y c u).1 z6)/\ae [M] x d:=by
 by_cases a:(fM y c u).1=0
 ·refine(OU M c u y x h.anyS i g).mono (fun e d q=>⟨q.1,?_,q.2.2.2⟩);rw[rA a];exact⟨Un h.z q.2.2.2.size,q.2.2.1 a⟩
 ·obtain⟨f,m,n,o,l,k⟩:=h.same;refine(QW M c u y f m n o x l i g a).mono (fun e d q=>⟨q.1,?_,q.2.2⟩);have j:=q.2.1;rw[Jd a]at j ⊢;rw[tJ a];exact k d j q.2.2
theorem El(g f:Nat)(i:Option Nat)(w:World)(h:ev w M yd g f i)(j:lL w t y)(c:my y) :
  Calls prog 31 #[pointer (some ⟨M,0,none⟩),slice t y.length T] w fun e b=>e=returned (int i64 (dR y))/\ev b M (j8 yd y) g f (na (dR y) i)/\ae [M] w b:=by
 obtain⟨d,o,p,r,l,k⟩:=h.same;refine(LW M yd y d o p r t T w l j c).mono (fun e b q=>⟨q.1,?_,q.2.2⟩);obtain⟨m,n⟩:=q.2.1;by_cases a:dR y=0
 ·rw[rA a];exact⟨Un h.z q.2.2.size,m a⟩
 ·have:=n a;rw[qO rfl a]at this ⊢;rw[tJ a];exact k b this q.2.2
theorem Pv(a:dM x M y z2 y4 b z6)(n:c.size<=1073741824)(l:u.size<=4294967296) :
  Calls prog 16 #[pointer (some ⟨M,0,none⟩),string c,string u] x fun e j=>e=returned (int i64 (fM y c u).1)/\∃f,dM j M (fM y c u).2 f y4 b (na (fM y c u).1 z6)/\ae (M :: z2.Yv.toList) x j/\∀q,f.Yv=some q->z2.Yv=some q∨x.heap.size<=q:=by
 obtain⟨o,p,s,t,r⟩:=a.anyS;refine(Lc M y z2 o p s t c u x r n l).mono (fun e j q=>⟨q.1,?_⟩);by_cases d:(fM y c u).1=0
 ·obtain⟨f,v,g⟩:=q.2.1 d;rw[rA d];refine⟨f,⟨Un a.z g.Yu.size,_,_,_,v⟩,g.Yu,fun q i=>?_⟩;rcases g.Yv with e | ⟨w,e,m⟩
  ·exact Us (by rw[<-e];exact i)
  ·rw[e]at i;cases i;exact Uo m
 ·have k:=q.2.2 d;rw[tJ d,Jd d];exact⟨z2,a.Yh k,k.mono (by simp),fun _ e=>Us e⟩
theorem Dj(a:dM x M yd z2 y4 b z6)(m:om x t T y)(o:t=none->y.length=0/\T=0)(n:∀l,t=some l->∃g,l=⟨g,0,none⟩)(f:∀j,j<y.length->(aF y j).size<=1073741824/\(ak y j).size<=1073741824) :
  Calls prog 32 #[pointer (some ⟨M,0,none⟩),slice t y.length T] x fun e i=>e=returned (int i64 (dR y))/\∃d,dM i M (j8 yd y) d y4 b (na (dR y) z6)/\ae (M :: z2.Yv.toList) x i/\∀q,d.Yv=some q->z2.Yv=some q∨x.heap.size<=q:=by
 obtain⟨s,u,v,w,r⟩:=a.anyS;refine(F3 M yd y z2 s u v w t T x r m o n f).mono (fun e i q=>⟨q.1,?_⟩);by_cases c:dR y=0
 ·obtain⟨d,A,g,p⟩:=q.2.1 c;rw[rA c];exact⟨d,⟨Un a.z g.size,_,_,_,A⟩,g,p⟩
 ·have k:=q.2.2 c;rw[tJ c,qO rfl c];exact⟨z2,a.Yh k,k.mono (by simp),fun _ e=>Us e⟩
theorem Dq(a:y.length<=4)(b:∀j,j<y.length->(ak y j).size<=1024)(d:T<y.length)(h:((gj y T).1==0)=true):gj y T=dh:=by
 unfold gj at h;split at h
 ·next c =>
  have e:(Nc (Af (bL y T).1 (aa (bL y T).1))).1=(Af (bL y T).1 (aa (bL y T).1)).YE:=rfl;rw[e,c]at h;cases h
 ·next c =>
  exact(xM y T a b d (by cases q:((Af (bL y T).1 (aa (bL y T).1)).YE==0);exact absurd q c;rfl) h).1
def oU(z lo hi lo1 hi1:Nat):Prop:=(lo1=lo/\hi1=hi)∨z<=lo1
theorem oU.mem{z lo hi:Nat}(h:oU z lo hi w S)(a:o∈iW w S):o∈iW lo hi∨z<=o:=by
 rcases h with ⟨rfl,rfl⟩ | h
 ·exact Us a
 ·exact Uo (Un h (oC.1 a).1)
def TM(w:World)(x:Nat)(fs:Fs)(lo hi:Nat)(f:pJ)(q:Int)(st:Option Nat)(e:Ending)(w':World):Prop :=
 e=returned (tuple #[iz f,int i64 q])/\(∃lo1 hi1,ev w' x fs lo1 hi1 st/\oU w.heap.size lo hi lo1 hi1)/\ae [x] w w'
def TJ(w:World)(m:Nat)(fs:Fs)(h:Hd)(lo hi:Nat)(f:pJ)(q:Int)(st:Option Nat)(e:Ending)(w':World):Prop :=
 e=returned (tuple #[iz f,int i64 q])/\(∃lo1 hi1,dM w' m fs h lo1 hi1 st/\oU w.heap.size lo hi lo1 hi1)/\ae [m] w w'
theorem MQ(a:Fs)(h:Hd)(D C o m:Nat)(F:Option Nat)(n:Xs)(w:World)(I:ev w b a D C F)(x:a.length<=4)(p:∀j,j<a.length->(ak a j).size<=1024) :
  ∃(f:pJ) (q:Int) (B:Option Nat),Calls prog 37 #[pointer (some ⟨b,0,none⟩),string n] w (fun e i=>TM w b a D C f q B e i) /\
   ∀c,dM c T a h o m F->Calls prog 38 #[pointer (some ⟨T,0,none⟩),string n] c (fun e i=>TJ c T a h o m f q B e i):=by
 rcases qI n a with u | ⟨k,v,u⟩
 ·obtain⟨O,u0,u1,u2,X,W⟩:=I.same;refine⟨dh,5,F,(E2 b a n O u0 u1 u2 w X (by rw[u];decide)).mono (fun e i q=>⟨q.1,⟨D,C,W i q.2.1 q.2.2,Us ⟨rfl,rfl⟩⟩,q.2.2⟩),fun c d=>?_⟩;obtain⟨J,K,L,M,r⟩:=d.anyS;exact(zV T a h J K L M n c r (by rw[u];decide)).mono (fun e i q=>⟨q.1,⟨o,m,d.Yh q.2,Us ⟨rfl,rfl⟩⟩,q.2.mono (by simp)⟩)
 ·obtain⟨P,-⟩:=xL a k x p v;have A:=Hg b k a n w I.anyS u v p;have y:∀c,dM c T a h o m F->Calls prog 38 #[pointer (some ⟨T,0,none⟩),string n] c fun e i=>Tv a k T h (gj a k) (if((gj a k).1==0)=true then 0 else 6) c e i:=fun c d=>by
   obtain⟨J,K,L,M,r⟩:=d.anyS;exact CI T k a h J K L M n c r u v p
  cases t:((gj a k).1==0)
  ·refine⟨gj a k,6,none,A.mono (fun e i q=>?_),fun c d=>(y c d).mono (fun e i q=>?_)⟩
   ·obtain⟨s,d⟩:=q;rw[P,t,Ud (by simp)]at s;exact⟨s.1,⟨D,C,⟨Un I.z d.size,s.2⟩,Us ⟨rfl,rfl⟩⟩,d⟩
   ·rw[t,Ud (by simp)]at q;obtain⟨N,⟨-,Z⟩,E⟩:=q;exact⟨N,⟨o,m,⟨Un d.z E.size,Z (by decide)⟩,Us ⟨rfl,rfl⟩⟩,E⟩
  ·refine⟨gj a k,0,some k,A.mono (fun e i q=>?_),fun c d=>(y c d).mono (fun e i q=>?_)⟩
   ·obtain⟨s,d⟩:=q;rw[P,t,Uf rfl]at s;obtain⟨s,H,g,G,S,U⟩:=s;exact⟨by rw[s,Dq a k x p v t],⟨w.heap.size,i.heap.size,⟨Ue _,⟨v,t⟩,H,g,G,⟨S,aj G.arr⟩,fun R Q=>⟨U R Q.inH,G.Yt.ltU Q⟩⟩,Uo (Ue _)⟩,d⟩
   ·rw[t,Uf rfl]at q;obtain⟨N,⟨Y,-⟩,E⟩:=q;obtain⟨l,V,r⟩:=Y rfl;exact⟨N,⟨l,i.heap.size,⟨Ue _,r⟩,Uo V⟩,E⟩
structure uQ(w:World)(bo:Option Nat)(L:Xt):Prop where
 nil:bo=none ↔ L=[]
 Yv:∀b,bo=some b->w.heap[b]?=some (.cells (dm L).toArray 9)
def Md(L:Xt)(c:Int)(w:World)(e:Ending)(w':World):Prop:=∃bo,e=returned (tuple #[slice (wa bo) L.length L.length,int i64 c])/\uQ w' bo L/\(∀b,bo=some b->w.heap.size<=b)/\ae [] w w'
def O8(L:Xt)(c:Int)(w:World)(e:Ending)(w':World):Prop:=∃h',e=returned (tuple #[slice h'.ao L.length h'.cap,int i64 c])/\ip w w' h' (aD L)
theorem IQ(b:i.length<=4)(a:∀j,j<i.length->(ak i j).size<=1024)(k:w<i.length)(f:((gj i w).1==0)=true):rR (bL i w).1 (bP i w).2.2/\(bL i w).1.length<=10000/\fz (bL i w).1:=by
 obtain⟨c,g⟩:=xL i w b a k;obtain⟨d,e⟩:=g (by rw[c];exact f);exact⟨d,e,Dw i w (tY a)⟩
theorem Ja(L:Xt)(a:L=[]):ip x x ⟨none,0⟩ (aD L):=by subst a;exact⟨Uj _ _ _ _,(by intro k b;cases b),ae.refl _ _⟩
def TF(w:World)(e:Ending)(w':World):Prop:=∃(L:List iH) (h':Hd),e=returned (slice h'.ao L.length h'.cap)/\ip w w' h' (gD L)/\L.length<=100000
theorem M0(w:dM x M y z2 y4 b z6)(i:∀k,z6=some k->k<y.length/\((gj y k).1==0)=true)(g:y.length<=4)(l:∀j,j<y.length->(ak y j).size<=1024) :
  Calls prog 23 #[pointer (some ⟨M,0,none⟩)] x fun e m=>TF x e m:=by
 have p:=w.s;cases z6 with
 | none =>
  obtain⟨z,A,B,r⟩:=p;refine(Lw M _ z A B x r.d).mono (fun e m q=>⟨[],⟨none,0⟩,q.1,?_,by simp⟩);rw[q.2];exact⟨Uj _ _ _ _,(by intro k c;cases c),ae.refl _ _⟩
 | some k =>
  obtain⟨c,u⟩:=i k rfl;obtain⟨G,O,N⟩:=IQ g l c u;obtain⟨I,H,K,F,J,E,L,n,o,r⟩:=p;have v:=r.YA.tell;have P:(aa (bL y k).1).length<=(bL y k).1.length:=rI _ _;have a:n.length<=100000:=by rw[v.len];omega
  refine(Lv M n o.ao o.cap _ _ _ x r.rv.d (aB.srcG (f:=ln) r.s2 (fun _=>rfl)) a).mono (fun e m q=>?_);obtain⟨t,C,D⟩:=q;exact⟨_,t,C,D,Un (VO _ _) a⟩
def sS(b t:Nat)(c:List Value):It where
 B:=[b]
 P w:=w.heap[b]?=some (.cells c.toArray t)
 lt w h q hq:=by rw[Uq.1 hq];exact aj h
 ok S w w' h k hb:=k.get h (hb b (by simp))
def cW(h:Hd)(r:ew):It where
 B:=h.Yv.toList
 P w:=aB w h r
 lt w o q hq:=o.lt (aR hq)
 ok S w w' o k hb:=o.Ym (fun q hq=>k.block q (o.lt hq) (hb q (by rw[hq];simp)))
def RT(x:Nat)(fs:Fs)(lo hi:Nat)(st:Option Nat):It where
 B:=x :: iW lo hi
 P w:=ev w x fs lo hi st
 lt _ a q hq:=a.lt q hq
 ok _ _ _ a k hb:=a.Yu k hb
def RQ(v:Nat)(h:Hd)(fs:Fs)(lo hi:Nat)(st:Option Nat):It where
 B:=v :: (h.Yv.toList++iW lo hi)
 P w:=dM w v fs h lo hi st
 lt _ a q hq:=a.lt q hq
 ok _ _ _ a k hb:=a.Yu k hb
def CS(fs:Fs):Prop:=∀j,j<fs.length->(ak fs j).size<=1024
structure jx(w:World)(bo:Option Nat)(fs:Fs):Prop where
 nil:bo=none->fs=[]
 Yv:∀b,bo=some b->w.heap[b]?=some (.cells (rY fs).toArray 68)
def v7(bo:Option Nat)(fs:Fs):It where
 B:=bo.toList
 P w:=jx w bo fs
 lt w a q hq:=by
  cases bo with
  | none=>cases hq
  | some b=>rw[XK,Uq]at hq;rw[hq];exact aj (a.Yv b rfl)
 ok S w w' a k hb:=⟨a.nil,fun b e=>k.get (a.Yv b e) (hb b (by rw[e];simp))⟩
def Cb(x:Option Nat×Fs):Value:=slice (wa x.1) x.2.length x.2.length
def iY(l:List (Option Nat×Fs)):ew:=⟨33,1,l.length,l.map Cb⟩
def Qw(x:Nat):Value:=pointer (some ⟨x,0,none⟩)
def mh(t:Nat)(l:Xv):ew:=⟨t,1,l.length,l.map Qw⟩
structure Mc where
 hx:Hd
 hm:Hd
 hr:Hd
 hl:Hd
 hc:Hd
 V:List (Nat×Nat×Fs)
 reg:Fs
 L:List (Option Nat×Option Nat×Fs)
 a:Int
 n:Int
 e:Int
 u:Int
 s:Xs
 p:Int
 q:Int
 f:Xs
 i:Int
 j:Int
 qv:Value
 tv:Value
def Mc.cells(M:Mc):List Value:=[slice M.hx.ao M.V.length M.hx.cap,slice M.hm.ao M.V.length M.hm.cap,slice M.hr.ao M.reg.length M.hr.cap,slice M.hl.ao M.L.length M.hl.cap,slice M.hc.ao M.L.length M.hc.cap,int i64 M.a,int i64 M.n,int i64 M.e,int i64 M.u,string M.s,int i64 M.p,int i64 M.q,string M.f,int i64 M.i,int i64 M.j,M.qv,M.tv]
structure cJ(w:World)(b:Nat)(I:Nat×Nat->It)(M:Mc)(N:Nat):Prop where
 sep:pH w I
 w0:I (0,0)=sS b 42 M.cells
 x:I (1,0)=cW M.hx (mh 46 (M.V.map (·.1)))
 m:I (2,0)=cW M.hm (mh 47 (M.V.map (·.2.1)))
 r:I (3,0)=cW M.hr (de M.reg)
 ls:I (4,0)=cW M.hl (iY (M.L.map (fun l=>(l.1,l.2.2))))
 lw:I (5,0)=cW M.hc (iY (M.L.map (fun l=>(l.2.1,l.2.2))))
 v:∀i x m fs,M.V[i]?=some (x,m,fs)->(∃st h lo hi lo2 hi2,I (6,i)=RT x fs lo hi st/\I (7,i)=RQ m h fs lo2 hi2 st)/\CS fs
 l:∀k a c fs,M.L[k]?=some (a,c,fs)->I (8,k)=v7 a fs/\I (9,k)=v7 c fs/\my fs/\fs.length<=N
 fit:my M.reg
 len:M.V.length<=N/\M.reg.length<=N/\M.L.length<=N
 rng:rx M.a/\rx M.n/\rx M.e
structure sG(I:Nat×Nat->It)(M:Mc)(I':Nat×Nat->It)(M':Mc):Prop where
 k:∀j i,10<=j->I' (j,i)=I (j,i)
 q:M'.qv=M.qv
 t:M'.tv=M.tv
theorem sG.refl(M:Mc):sG g M g M:=⟨fun _ _ _=>rfl,rfl,rfl⟩
theorem qe{a:It}(b:w<10)(c:10<=o):fT d (w,S) a (o,y7)=d (o,y7):=au _ _ (bG (by omega))
theorem cJ.Yh{M:Mc}(h:cJ H w d M S)(k:ae [] H D):cJ D w d M S:={ h with sep:=h.sep.Yh k }
theorem cJ.more{M:Mc}(h:cJ H w d M S):cJ H w d M (S+1) :=
 { h with l:=fun k a c i e=>by obtain⟨b,f,g,j⟩:=h.l k a c i e;exact⟨b,f,g,by omega⟩,len:=by obtain⟨b,f,g⟩:=h.len;exact⟨by omega,by omega,by omega⟩ }
theorem cJ.Yv{M:Mc}(h:cJ H w d M S):H.heap[w]?=some (.cells M.cells.toArray 42):=by
 have:=h.sep.all (0,0);rw[h.w0]at this;exact this
theorem cJ.ownX{M:Mc}(h:cJ H w d M S):aB H M.hx (mh 46 (M.V.map (·.1))):=by have:=h.sep.all (1,0);rw[h.x]at this;exact this
theorem cJ.ownM{M:Mc}(h:cJ H w d M S):aB H M.hm (mh 47 (M.V.map (·.2.1))):=by have:=h.sep.all (2,0);rw[h.m]at this;exact this
theorem cJ.ownR{M:Mc}(h:cJ H w d M S):aB H M.hr (de M.reg):=by have:=h.sep.all (3,0);rw[h.r]at this;exact this
theorem cJ.ownL{M:Mc}(h:cJ H w d M S):aB H M.hl (iY (M.L.map (fun l=>(l.1,l.2.2)))):=by have:=h.sep.all (4,0);rw[h.ls]at this;exact this
theorem cJ.ownC{M:Mc}(h:cJ H w d M S):aB H M.hc (iY (M.L.map (fun l=>(l.2.1,l.2.2)))):=by have:=h.sep.all (5,0);rw[h.lw]at this;exact this
theorem pH.grow(s:pH H d)(e:d y0=cW L x1)(g:bJ H D L z3)(o:aB D z3 yt):pH D (fT d y0 (cW z3 yt)):=by
 refine s.put y0 _ (by rw[e];exact g.Yu) o (fun q a=>?_);have a:=aR a;rcases g.Yv with b | ⟨f,b,c⟩
 ·left;rw[e];show q∈L.Yv.toList;rw[<-b,a];simp
 ·right;rw[b]at a;cases a;exact c
theorem pH.turn{a:List Value}(s:pH H d)(e:d y0=sS w S yu)(g:ae [w] H D)(o:D.heap[w]?=some (.cells a.toArray S)):pH D (fT d y0 (sS w S a)) :=
 s.put y0 _ (by rw[e];exact g) o (fun q b=>by rw[e];exact Us b)
def jo(b:Nat)(I:Nat×Nat->It)(M:Mc)(N:Nat)(r:Bool)(e:Ending)(w':World):Prop:=e=returned (bool r)/\∃I' M',cJ w' b I' M' (N+1)/\sG I M I' M'
theorem cJ.turn0{M M':Mc}(h:cJ H w d M S)(e:(M'.hx=M.hx/\M'.hm=M.hm/\M'.hr=M.hr/\M'.hl=M.hl/\M'.hc=M.hc)/\M'.V=M.V/\M'.reg=M.reg/\M'.L=M.L)(k:ae [w] H D)(o:D.heap[w]?=some (.cells M'.cells.toArray 42))(A:rx M'.a/\rx M'.n/\rx M'.e):cJ D w (fT d (0,0) (sS w 42 M'.cells)) M' S:=by
 obtain⟨⟨p,s,t,u,y⟩,c,g,f⟩:=e;have q:∀a i,a≠0->fT d (0,0) (sS w 42 M'.cells) (a,i)=d (a,i):=fun a i z=>au _ _ (bG z)
 exact {
  sep:=h.sep.turn h.w0 k o
  w0:=bV _ _ _
  x:=by rw[q 1 0 (by decide),p,c];exact h.x
  m:=by rw[q 2 0 (by decide),s,c];exact h.m
  r:=by rw[q 3 0 (by decide),t,g];exact h.r
  ls:=by rw[q 4 0 (by decide),u,f];exact h.ls
  lw:=by rw[q 5 0 (by decide),y,f];exact h.lw
  v:=fun i x m j b=>by rw[q 6 i (by decide),q 7 i (by decide)];rw[c]at b;exact h.v i x m j b
  l:=fun i x m j b=>by rw[q 8 i (by decide),q 9 i (by decide)];rw[f]at b;exact h.l i x m j b
  fit:=by rw[g];exact h.fit
  len:=by rw[c,g,f];exact h.len
  rng:=A }
theorem cJ.boxed{M:Mc}(h:cJ H w d M S)(k a c b:Int)(s t:Xs)(W:World)(e:H.alloc (.cells #[int i64 k,int i64 a,int i64 c,int i64 b,string s,string t] 28)=W) :
  cJ W w d M S/\W.heap[H.heap.size]?=some (.cells #[int i64 k,int i64 a,int i64 c,int i64 b,string s,string t] 28)/\w<H.heap.size/\ae [] H W:=by
 have f:ae [] H W:=by rw[<-e];exact bM.alloc _
 exact⟨h.Yh f,by rw[<-e];exact Ui _ _,aj h.Yv,f⟩
theorem dx{a c d:Int}(h:H.heap[w]?=some (.cells #[int i64 ya,int i64 a,int i64 c,int i64 d,string z0,string z1] 28)) :
  H.cell? ⟨w,0,none⟩=some (int i64 ya)/\H.cell? ⟨w,1,none⟩=some (int i64 a)/\H.cell? ⟨w,2,none⟩=some (int i64 c)/\H.cell? ⟨w,3,none⟩=some (int i64 d)/\H.cell? ⟨w,4,none⟩=some (string z0)/\H.cell? ⟨w,5,none⟩=some (string z1)/\w<H.heap.size:=by
 refine⟨?_,?_,?_,?_,?_,?_,aj h⟩ <;> (rw[ah h];rfl)
theorem R6(M:Mc)(A C D:Int)(s t:Xs)(w:World)(h:cJ w b g M T)(l:rx A)(m:rx C)(p:rx D) :
  Calls prog 12 #[pointer (some ⟨b,0,none⟩),agg #[int i64 7,int i64 A,int i64 C,int i64 D,string s,string t]] w fun e u=>jo b g M T true e u:=by
 obtain⟨W,d⟩:=bm (w.alloc (.cells #[int i64 7,int i64 A,int i64 C,int i64 D,string s,string t] 28));obtain⟨c,f,q,-⟩:=h.boxed 7 A C D s t W d.o;obtain⟨B,E,F,G,H,I,J⟩:=dx f;have v:W.cell? ⟨b,5,none⟩=some (int i64 M.a):=by rw[ah c.Yv];rfl
 have x:W.cell? ⟨b,6,none⟩=some (int i64 M.n):=by rw[ah c.Yv];rfl
 have y:W.cell? ⟨b,7,none⟩=some (int i64 M.e):=by rw[ah c.Yv];rfl
 have z:=am c.Yv;have k:Xr (cJ (((W.setCell ⟨b,5,none⟩ (int i64 A)).setCell ⟨b,6,none⟩ (int i64 C)).setCell ⟨b,7,none⟩ (int i64 D)) b _ { M with a:=A,n:=C,e:=D } T) :=
  c.turn0 (M':={ M with a:=A,n:=C,e:=D }) ⟨⟨rfl,rfl,rfl,rfl,rfl⟩,rfl,rfl,rfl⟩ ((((ae.refl [b] _).sl1 _).sl1 _).sl1 _) (by rw[ab (ab (ab c.Yv 5 _) 6 _) 7 _];rfl) ⟨l,m,p⟩
 clear h c f;go_enter func12,ntmps12;go_upto_region 1 with fail
 rw[d.o];go_wp2;go_ret;exact⟨rfl,_,_,k.o.more,⟨fun j i r=>qe (by decide) r,rfl,rfl⟩⟩
theorem Qe(M:Mc)(A C D:Int)(s t:Xs)(w:World)(h:cJ w b g M T) :
  Calls prog 12 #[pointer (some ⟨b,0,none⟩),agg #[int i64 16,int i64 A,int i64 C,int i64 D,string s,string t]] w fun e m=>jo b g M T true e m:=by
 obtain⟨W,c⟩:=bm (w.alloc (.cells #[int i64 16,int i64 A,int i64 C,int i64 D,string s,string t] 28));obtain⟨a,d,k,-⟩:=h.boxed 16 A C D s t W c.o;obtain⟨q,r,v,x,y,z,B⟩:=dx d;have p:=am a.Yv;have n:W.cell? ⟨b,8,none⟩=some (int i64 M.u):=by rw[ah a.Yv];rfl
 have f:Xr (cJ (W.setCell ⟨b,8,none⟩ (int i64 A)) b _ { M with u:=A } T) :=
  a.turn0 (M':={ M with u:=A }) ⟨⟨rfl,rfl,rfl,rfl,rfl⟩,rfl,rfl,rfl⟩ ((ae.refl [b] _).sl1 _) (by rw[ab a.Yv 8 _];rfl) a.rng
 clear h a d;go_enter func12,ntmps12;go_upto_region 1 with fail
 rw[c.o];go_wp2;go_ret;exact⟨rfl,_,_,f.o.more,⟨fun j i l=>qe (by decide) l,rfl,rfl⟩⟩
theorem Qf(M:Mc)(A C D:Int)(s t:Xs)(w:World)(h:cJ w b g M T)(k:M.qv=slice none 0 0) :
  Calls prog 12 #[pointer (some ⟨b,0,none⟩),agg #[int i64 17,int i64 A,int i64 C,int i64 D,string s,string t]] w fun e l=>jo b g M T true e l:=by
 obtain⟨W,c⟩:=bm (w.alloc (.cells #[int i64 17,int i64 A,int i64 C,int i64 D,string s,string t] 28));obtain⟨a,d,j,-⟩:=h.boxed 17 A C D s t W c.o;obtain⟨m,n,p,q,r,u,v⟩:=dx d;have i:W.cell? ⟨b,15,none⟩=some (slice none 0 0):=by rw[ah a.Yv,<-k];rfl
 have f:Xr (cJ W b g M T):=a;clear h a d;go_enter func12,ntmps12;go_upto_region 1 with fail
 rw[c.o];go_wp2;go_ret;exact⟨rfl,_,_,f.o.more,sG.refl _ _⟩
theorem l9(M:Mc)(k A C D:Int)(s t:Xs)(w:World)(h:cJ w b g M T)(n:(8<=k/\k<=14)∨19<=k) :
  Calls prog 12 #[pointer (some ⟨b,0,none⟩),agg #[int i64 k,int i64 A,int i64 C,int i64 D,string s,string t]] w fun e x=>e=returned (bool false)/\ae [] w x:=by
 obtain⟨W,d⟩:=bm (w.alloc (.cells #[int i64 k,int i64 A,int i64 C,int i64 D,string s,string t] 28));obtain⟨j,f,l,c⟩:=h.boxed k A C D s t W d.o;obtain⟨I,-⟩:=dx f;have i:Xr (ae [] w W):=c;have a:∀m:Int,(k=m->False)->(k==m)=false:=fun m p=>Uz.2 p;have y:=a 1 (by omega);have z:=a 2 (by omega);have B:=a 3 (by omega);have E:=a 4 (by omega);have F:=a 5 (by omega);have G:=a 6 (by omega);have H:=a 7 (by omega);have q:=a 15 (by omega);have r:=a 16 (by omega);have u:=a 17 (by omega);have v:=a 18 (by omega);clear h j f a n c;go_enter func12,ntmps12;go_upto_region 1 with fail
 rw[d.o];go_wp2;go_ret;exact⟨rfl,i.o⟩
theorem Qd(M:Mc)(A C D:Int)(s t:Xs)(w:World)(h:cJ w b g M T) :
  Calls prog 12 #[pointer (some ⟨b,0,none⟩),agg #[int i64 15,int i64 A,int i64 C,int i64 D,string s,string t]] w fun e z=>jo b g M T true e z:=by
 obtain⟨W,c⟩:=bm (w.alloc (.cells #[int i64 15,int i64 A,int i64 C,int i64 D,string s,string t] 28));obtain⟨a,d,x,-⟩:=h.boxed 15 A C D s t W c.o;obtain⟨G,H,I,J,K,L,N⟩:=dx d;have F:=am a.Yv;have B:W.cell? ⟨b,8,none⟩=some (int i64 M.u):=by rw[ah a.Yv];rfl
 have E:W.cell? ⟨b,9,none⟩=some (string M.s):=by rw[ah a.Yv];rfl
 have l:W.cell? ⟨b,10,none⟩=some (int i64 M.p):=by rw[ah a.Yv];rfl
 have m:W.cell? ⟨b,11,none⟩=some (int i64 M.q):=by rw[ah a.Yv];rfl
 have n:W.cell? ⟨b,12,none⟩=some (string M.f):=by rw[ah a.Yv];rfl
 have r:W.cell? ⟨b,13,none⟩=some (int i64 M.i):=by rw[ah a.Yv];rfl
 have v:W.cell? ⟨b,14,none⟩=some (int i64 M.j):=by rw[ah a.Yv];rfl
 have k:Xr (cJ (((((((W.setCell ⟨b,9,none⟩ (string s)).setCell ⟨b,10,none⟩ (int i64 A)).setCell ⟨b,11,none⟩ (int i64 C)).setCell ⟨b,12,none⟩ (string t)).setCell ⟨b,13,none⟩ (int i64 D)).setCell ⟨b,14,none⟩ (int i64 M.u)).drew) b _ { M with s:=s,p:=A,q:=C,f:=t,i:=D,j:=M.u } T) :=
  (a.turn0 (M':={ M with s:=s,p:=A,q:=C,f:=t,i:=D,j:=M.u }) ⟨⟨rfl,rfl,rfl,rfl,rfl⟩,rfl,rfl,rfl⟩ ((((((((ae.refl [b] _).sl1 _).sl1 _).sl1 _).sl1 _).sl1 _).sl1 _)) (by rw[ab (ab (ab (ab (ab (ab a.Yv 9 _) 10 _) 11 _) 12 _) 13 _) 14 _];rfl) a.rng).Yh bM.drew
 clear h a d;go_enter func12,ntmps12;go_upto_region 1 with fail
 rw[c.o];go_upto_region 38 with fail
 go_region
 all_goals go_wp2
 all_goals go_ret
 all_goals exact⟨rfl,_,_,k.o.more,⟨fun j i y=>qe (by decide) y,rfl,rfl⟩⟩
theorem cJ.clear{M:Mc}(h:cJ H w d M S)(k:ae [w] H D)(o:D.heap[w]?=some (.cells ({ M with hr:=⟨none,0⟩,reg:=[] }:Mc).cells.toArray 42)):∃f,cJ D w f { M with hr:=⟨none,0⟩,reg:=[] } S/\sG d M f { M with hr:=⟨none,0⟩,reg:=[] }:=by
 have u:=h.sep.turn h.w0 k o;have y:=u.put (3,0) (cW ⟨none,0⟩ (de [])) ((ae.refl _ D).mono (fun _ t _=>t)) (Uj _ _ _ _) (fun q s=>by cases s);refine⟨fT (fT d (0,0) (sS w 42 ({ M with hr:=⟨none,0⟩,reg:=[] }:Mc).cells)) (3,0) (cW ⟨none,0⟩ (de [])),?_,?_⟩
 rotate_left
 ·exact⟨fun j i p=>by(repeat rw[qe (by decide) p]),rfl,rfl⟩
 have q:∀a i,a≠0->a≠3->(fT (fT d (0,0) (sS w 42 ({ M with hr:=⟨none,0⟩,reg:=[] }:Mc).cells)) (3,0) (cW ⟨none,0⟩ (de []))) (a,i)=d (a,i):=fun a i g n=>by rw[au _ _ (bG n),au _ _ (bG g)]
 exact {
  sep:=y
  w0:=by rw[au _ _ (bG (by decide))];exact bV _ _ _
  x:=by rw[q 1 0 (by decide) (by decide)];exact h.x
  m:=by rw[q 2 0 (by decide) (by decide)];exact h.m
  r:=bV _ _ _
  ls:=by rw[q 4 0 (by decide) (by decide)];exact h.ls
  lw:=by rw[q 5 0 (by decide) (by decide)];exact h.lw
  v:=fun i x m c e=>by rw[q 6 i (by decide) (by decide),q 7 i (by decide) (by decide)];exact h.v i x m c e
  l:=fun i x m c e=>by rw[q 8 i (by decide) (by decide),q 9 i (by decide) (by decide)];exact h.l i x m c e
  fit:=fun j=>⟨by show(0:Nat)<=_;omega,by show(0:Nat)<=_;omega⟩
  len:=⟨h.len.1,UF _,h.len.2.2⟩
  rng:=h.rng }
theorem RZ(b N:Nat)(I:Nat×Nat->It)(M:Mc)(A C D:Int)(s t:Xs)(w:World)(h:cJ w b I M N) :
  Calls prog 12 #[pointer (some ⟨b,0,none⟩),agg #[int i64 3,int i64 A,int i64 C,int i64 D,string s,string t]] w fun e m=>jo b I M N true e m:=by
 obtain⟨W,f⟩:=bm (w.alloc (.cells #[int i64 3,int i64 A,int i64 C,int i64 D,string s,string t] 28));obtain⟨a,g,k,-⟩:=h.boxed 3 A C D s t W f.o;obtain⟨q,r,u,v,x,y,z⟩:=dx g;have p:=am a.Yv;have n:W.cell? ⟨b,2,none⟩=some (slice M.hr.ao M.reg.length M.hr.cap):=by rw[ah a.Yv];rfl
 have i:Xr (∃c,cJ (W.setCell ⟨b,2,none⟩ (slice none 0 0)) b c { M with hr:=⟨none,0⟩,reg:=[] } N/\sG I M c { M with hr:=⟨none,0⟩,reg:=[] }) :=
  a.clear ((ae.refl [b] _).sl1 _) (by rw[ab a.Yv 2 _];rfl)
 clear h a g;go_enter func12,ntmps12;go_upto_region 1 with fail
 rw[f.o];go_wp2;go_ret;obtain⟨c,j,d⟩:=i.o;exact⟨rfl,c,_,j.more,d⟩
theorem dB{c:List Oper}(H:z4.guard=none)(s v:Operand)(t:TypeId)(p:z4.op=Op.call { callee:=Callee.builtin Builtin.append,args:=#[s,v],argTypes:=#[t,t] })(i:TypeInfo)(z:Value)(b:Nat)(h:Hd)(r:ew)(a:List Value)(w:y1.underlying t=some (.slice r.e))(y:y1.info? r.e=some i)(A:i.zero=some z)(B:i.size=r.size)(C:i.bytes=b)(D:z.cells.size=r.size)(E:0<r.size)(L:y3.eval s=slice h.ao r.n h.cap)(d:aB x h r)(Q:r.n<=4294967296)(G:b<=1000)(M:y3.eval v=slice (some ⟨x.heap.size,0,none⟩) 1 1)(R:a.length=r.size)(l:∀u∈a,u.oneCell'=true)(F:∀k g,aB g k ⟨r.e,r.size,r.n+1,r.xs++a⟩->bJ x g h k->wpList y1 yv yy c (y3.put z4.dst (slice k.ao (r.n+1) k.cap)) g) :
  wpList y1 yv yy (z4 :: c) y3 (x.alloc (.cells a.toArray r.e)):=by
 have q:ae [] x (x.alloc (.cells a.toArray r.e)):=bM.alloc _;have J:(x.alloc (.cells a.toArray r.e)).heap[x.heap.size]?=some (.cells a.toArray r.e):=Ui _ _;obtain⟨o,g,f,N,O⟩:=qD (P:=y1) (x.alloc (.cells a.toArray r.e)) t z4.type i z b h r w y A B C D E (d.Yh q) (some ⟨x.heap.size,0,none⟩) 1 1 a (by omega) (fun e=>by cases e) (fun P e j u I=>by cases e;rw[bS,ah J];simpa using I) l (by unfold maxLen;omega) (Un (Wj (show r.n+1<=4294967297 by omega) G) (by omega));refine wpList_plain H fun K m=>?_;unfold Oper.wp;simp[execOp,p,resolve,invoke,builtin,L,M,f,Result.andThen];exact m _ _ (F o g N ((bJ.Yh q).trans O))
theorem vH{K:Act->World->Prop}{E:Prop}(H:z4.guard=none)(s q:Operand)(t:TypeId)(o:z4.op=Op.call { callee:=Callee.builtin Builtin.append,args:=#[s,q],argTypes:=#[t,t] })(i:TypeInfo)(z:Value)(b:Nat)(h:Hd)(r:ew)(a:List Value)(v:y1.underlying t=some (.slice r.e))(w:y1.info? r.e=some i)(y:i.zero=some z)(A:i.size=r.size)(B:i.bytes=b)(C:z.cells.size=r.size)(D:0<r.size)(L:y3.eval s=slice h.ao r.n h.cap)(g:aB x h r)(R:r.n<=4294967296)(G:b<=1000)(N:y3.eval q=slice (some ⟨x.heap.size,0,none⟩) 1 1)(S:a.length=r.size)(m:∀u∈a,u.oneCell'=true)(F:∀d c l,aB l ⟨d,c⟩ ⟨r.e,r.size,r.n+1,r.xs++a⟩->bJ x l h ⟨d,c⟩->K (y3.put z4.dst (slice d (r.n+1) c)) l) :
  if Region.wanted z4 (yielded yv y3.tmps)=true then Oper.wp y1 z4 y3 (x.alloc (.cells a.toArray r.e)).drew K yy else E:=by
 have p:ae [] x (x.alloc (.cells a.toArray r.e)).drew:=(bM.alloc _).drew;have J:(x.alloc (.cells a.toArray r.e)).drew.heap[x.heap.size]?=some (.cells a.toArray r.e):=Ui _ _;obtain⟨f,l,k,O,P⟩:=qD (P:=y1) (x.alloc (.cells a.toArray r.e)).drew t z4.type i z b h r v w y A B C D (g.Yh p) (some ⟨x.heap.size,0,none⟩) 1 1 a (by omega) (fun e=>by cases e) (fun Q e j u I=>by cases e;rw[bS,ah J];simpa using I) m (by unfold maxLen;omega) (Un (Wj (show r.n+1<=4294967297 by omega) G) (by omega));have M:Region.wanted z4 (yielded yv y3.tmps)=true:=by simp[Region.wanted,H]
 rw[Uf M];unfold Oper.wp;simp[execOp,o,resolve,invoke,builtin,L,N,k,Result.andThen];exact F f.ao f.cap l O ((bJ.Yh p).trans P)
theorem pH.grown(s:pH H d)(f:d (0,0)=sS w S yu)(i:y0≠(0,0))(e:d y0=cW L x1)(g:bJ H D L z3)(o:aB D z3 yt)(j:Nat)(v:Value) :
  pH (D.setCell ⟨w,j,none⟩ v) (fT (fT d y0 (cW z3 yt)) (0,0) (sS w S (yu.set j v))):=by
 have c:=s.grow e g o;have a:fT d y0 (cW z3 yt) (0,0)=sS w S yu:=by rw[au _ _ (Ne.symm i)];exact f
 refine c.turn a ((ae.refl [w] _).sl1 _) ?_;have b:=c.all (0,0);rw[a]at b;rw[ab (show D.heap[w]?=some (.cells yu.toArray S) from b) j v,U0]
theorem Lq(f:Xs×Xs):∀u∈Rd f,u.oneCell'=true:=by
 intro u a;simp only[Rd,List.mem_cons,List.not_mem_nil,or_false]at a;rcases a with rfl | rfl <;> rfl
theorem BC(h:my i)(b:z0.size<=1073741824)(a:z1.size<=1073741824):my (i++[(z0,z1)]):=by
 intro j;have:=h j;unfold aF ak at *;rw[Uc]at *;by_cases e:j<i.length
 ·rw[Uv e];exact this
 ·rw[Ur (by omega)];cases c:j-i.length with
  | zero=>exact⟨b,a⟩
  | succ q=>exact⟨by show(0:Nat)<=_;omega,by show(0:Nat)<=_;omega⟩
theorem cJ.addR{M:Mc}(h:cJ H w d M S)(g:bJ H D M.hr L)(o:aB D L (de (M.reg++[(z0,z1)])))(u:z0.size<=1073741824)(s:z1.size<=1073741824):∃f k,cJ (D.setCell ⟨w,2,none⟩ (slice L.ao (M.reg.length+1) L.cap)) w f k (S+1)/\sG d M f k:=by
 have y:=h.sep.grown h.w0 (bG (by decide)) h.r g o 2 (slice L.ao (M.reg.length+1) L.cap);refine⟨fT (fT d (3,0) (cW L (de (M.reg++[(z0,z1)])))) (0,0) (sS w 42 (M.cells.set 2 (slice L.ao (M.reg.length+1) L.cap))),{ M with hr:=L,reg:=M.reg++[(z0,z1)] },?_,?_⟩
 rotate_left
 ·exact⟨fun j i t=>by(repeat rw[qe (by decide) t]),rfl,rfl⟩
 have q:∀a i,a≠0->a≠3->(fT (fT d (3,0) (cW L (de (M.reg++[(z0,z1)])))) (0,0) (sS w 42 (M.cells.set 2 (slice L.ao (M.reg.length+1) L.cap)))) (a,i)=d (a,i):=fun a i n p=>by rw[au _ _ (bG n),au _ _ (bG p)]
 have c:=h.more
 exact {
  sep:=y
  w0:=by rw[bV];unfold Mc.cells;rw[Uh];rfl
  x:=by rw[q 1 0 (by decide) (by decide)];exact h.x
  m:=by rw[q 2 0 (by decide) (by decide)];exact h.m
  r:=by rw[au _ _ (bG (by decide))];exact bV _ _ _
  ls:=by rw[q 4 0 (by decide) (by decide)];exact h.ls
  lw:=by rw[q 5 0 (by decide) (by decide)];exact h.lw
  v:=fun i x m b e=>by rw[q 6 i (by decide) (by decide),q 7 i (by decide) (by decide)];exact h.v i x m b e
  l:=fun i x m b e=>by rw[q 8 i (by decide) (by decide),q 9 i (by decide) (by decide)];exact c.l i x m b e
  fit:=BC h.fit u s
  len:=⟨c.len.1,by have:=h.len.2.1;show(M.reg++[(z0,z1)]).length<=_;rw[Uh];show _+1<=_;omega,c.len.2.2⟩
  rng:=h.rng }
theorem RY(M:Mc)(A C D:Int)(s t:Xs)(w:World)(h:cJ w b g M T)(X:T<=1073741824)(L:s.size<=1073741824)(N:t.size<=1073741824) :
  Calls prog 12 #[pointer (some ⟨b,0,none⟩),agg #[int i64 2,int i64 A,int i64 C,int i64 D,string s,string t]] w fun e P=>jo b g M T true e P:=by
 obtain⟨W,x⟩:=bm (w.alloc (.cells #[int i64 2,int i64 A,int i64 C,int i64 D,string s,string t] 28));obtain⟨a,z,J,-⟩:=h.boxed 2 A C D s t W x.o;obtain⟨Y,Z,o2,o3,o4,o5,oz⟩:=dx z;obtain⟨O,q,j,k,l⟩:=UC BI;have R:=aj a.Yv;have S:W.cell? ⟨b,2,none⟩=some (slice M.hr.ao M.reg.length M.hr.cap):=by rw[ah a.Yv];rfl
 have v:Xr (cJ W b g M T):=a;have m:=a.ownR;have p:Xr ((de M.reg).n<=4294967296):=by show M.reg.length<=_;have:=h.len.2.1;omega
 have d:Xr ((de M.reg).n=M.reg.length):=rfl;have c:Xr (b∉M.hr.Yv.toList):=fun K=>a.sep.far (0,0) (3,0) (bG (by decide)) b (by rw[a.w0];exact Uq.2 rfl) (by rw[a.r];exact K);clear h a z;go_enter func12,ntmps12;go_upto_region 1 with fail
 rw[x.o];go_upto_region 9 with fail
 go_region_law (refine vH W rfl (.tmp 51) (.tmp 57) 33 rfl O (agg #[string ⟨#[]⟩,string ⟨#[]⟩]) 32 M.hr (de M.reg) (Rd (s,t)) underlying33 q j k l rfl Xo (by rw[d.o];simp[Act.eval]) m p.o (by omega) (by simp[Act.eval]) rfl (Lq (s,t)) ?_;intro G y Q i f;have u:=f.Yu.get v.o.Yv c.o;have V:=am u 2;have U:Q.cell? ⟨b,2,none⟩=some (slice M.hr.ao M.reg.length M.hr.cap):=(by rw[ah u];rfl);have z5:=aj u)
 all_goals
  rw[yP]at i;have B:Xr _:=v.o.addR f i L N;rw[d.o];go_wp2;go_ret;obtain⟨E,F,H,I⟩:=B.o;exact⟨rfl,E,F,H,I⟩
theorem RK:(prog.info? 46).map (fun i=>(i.zero,i.size,i.bytes))=some (some (pointer none),1,8):=by kernel_rfl
theorem RI:(prog.info? 47).map (fun i=>(i.zero,i.size,i.bytes))=some (some (pointer none),1,8):=by kernel_rfl
theorem AH(L:Xv)(x:Nat):(⟨(mh T L).e,(mh T L).size,(mh T L).n+1,(mh T L).xs++[Qw x]⟩:ew)=mh T (L++[x]):=by
 simp[mh]
theorem cJ.addV{J:Nat×Nat->It}{M:Mc}(h:cJ H w d M S)(b:J=fT (fT d (6,M.V.length) (RT o [] 0 0 none)) (7,M.V.length) (RQ y7 ⟨none,0⟩ [] 0 0 none))(p:pH D (fT (fT (fT (fT J (1,0) (cW L (mh 46 (M.V.map (·.1)++[o])))) (0,0) (sS w 42 (M.cells.set 0 (slice L.ao (M.V.length+1) L.cap)))) (2,0) (cW z3 (mh 47 (M.V.map (·.2.1)++[y7])))) (0,0) (sS w 42 ((M.cells.set 0 (slice L.ao (M.V.length+1) L.cap)).set 1 (slice z3.ao (M.V.length+1) z3.cap))))) :
  ∃g k,cJ D w g k (S+1)/\sG d M g k:=by
 refine⟨_,{ M with hx:=L,hm:=z3,V:=M.V++[(o,y7,[])] },⟨p,?_,?_,?_,?_,?_,?_,?_,?_,?_,?_,?_⟩,?_⟩
 ·rw[bV];unfold Mc.cells;rw[Uh];rfl
 ·rw[au _ _ (bG (by decide)),au _ _ (bG (by decide)),au _ _ (bG (by decide)),bV,UJ];rfl
 ·rw[au _ _ (bG (by decide)),bV,UJ];rfl
 ·subst b;simp only[fT];exact h.r
 ·subst b;simp only[fT];exact h.ls
 ·subst b;simp only[fT];exact h.lw
 ·intro i x m c a;rw[au _ _ (bG (by decide)),au _ _ (bG (by decide)),au _ _ (bG (by decide)),au _ _ (bG (by decide)),au _ _ (bG (by decide)),au _ _ (bG (by decide)),au _ _ (bG (by decide)),au _ _ (bG (by decide))];replace a:(M.V++[(o,y7,[])])[i]?=some (x,m,c):=a;subst b;by_cases e:i<M.V.length
  ·rw[Uv e]at a;rw[au _ _ (bG (by decide)),au _ _ (vm (by omega)),au _ _ (vm (by omega)),au _ _ (bG (by decide))];exact h.v i x m c a
  ·have n:i=M.V.length:=by
    have:=(Uk.1 a).1;rw[Uh]at this;have:i<M.V.length+1:=this;omega
   subst n;rw[Ur (Ue _),U3]at a;cases a
   rw[au _ _ (bG (by decide)),bV,bV];exact⟨⟨none,⟨none,0⟩,0,0,0,0,rfl,rfl⟩,fun j f=>by cases f⟩
 ·intro i x m c a;subst b;simp only[fT];exact h.more.l i x m c a
 ·exact h.fit
 ·refine⟨?_,h.more.len.2.1,h.more.len.2.2⟩;have:=h.len.1
  show(M.V++[(o,y7,[])]).length<=_
  rw[Uh];show _+1<=_;omega
 ·exact h.rng
 ·subst b;exact⟨fun j i f=>by(repeat rw[qe (by decide) f]),rfl,rfl⟩
theorem RV(M:Mc)(A C D:Int)(s t:Xs)(w:World)(h:cJ w b g M T)(hN:T<=1073741824) :
  Calls prog 12 #[pointer (some ⟨b,0,none⟩),agg #[int i64 1,int i64 A,int i64 C,int i64 D,string s,string t]] w fun e w'=>jo b g M T true e w':=by
 obtain⟨W,HW⟩:=bm (w.alloc (.cells #[int i64 1,int i64 A,int i64 C,int i64 D,string s,string t] 28));obtain⟨hM,hB,ax,-⟩:=h.boxed 1 A C D s t W HW.o;obtain⟨o0,-⟩:=dx hB;obtain⟨iX,ar,P,Q,R⟩:=UC RK;obtain⟨iM,ap,L,N,O⟩:=UC RI;have u:Xr (cJ W b g M T):=hM;have an:Xr ((mh 46 (M.V.map (·.1))).n<=4294967296):=by show(M.V.map _).length<=_;rw[Uy];have:=h.len.1;omega
 have al:Xr ((mh 47 (M.V.map (·.2.1))).n<=4294967296):=by show(M.V.map _).length<=_;rw[Uy];have:=h.len.1;omega
 have E:Xr ((mh 46 (M.V.map (·.1))).n=M.V.length):=Uy _;have z:Xr ((mh 47 (M.V.map (·.2.1))).n=M.V.length):=Uy _;clear h hM hB;go_enter func12,ntmps12;go_upto_region 1 with fail
 rw[HW.o];go_upto_region 5 with (go_at_call 28;refine Ug (Qk W) ?_;rintro e U ⟨rfl,hX,k1⟩)
 have S1:Xr _:=u.o.sep.put (6,M.V.length) (RT W.heap.size [] 0 0 none) (k1.mono (by simp)) ⟨UF _,hX⟩ (fun q l=>Uo (by rcases UH.1 l with e | e;exact XZ e.symm;exact absurd (oC.1 e).2 (WU _)));go_upto_region 6 with (go_at_call 29;refine Ug (KJ U) ?_;rintro e w2 ⟨rfl,hY,k2⟩)
 have S2:Xr _:=(S1.o.put (7,M.V.length) (RQ U.heap.size ⟨none,0⟩ [] 0 0 none) (k2.mono (by simp)) ⟨UF _,_,_,_,hY⟩ (fun q l=>Uo (by rcases UH.1 l with e | e;exact XZ e.symm;exact absurd (oC.1 (show q∈iW 0 0 from e)).2 (WU _))));have a:Xr _:=(u.o.Yh k1).Yh k2;clear hX hY k1 k2;have c0:w2.cell? ⟨b,0,none⟩=some (slice M.hx.ao M.V.length M.hx.cap):=by rw[ah a.o.Yv];rfl
 have G:=a.o.ownX;have y:Xr (b∉M.hx.Yv.toList):=fun l=>a.o.sep.far (0,0) (1,0) (bG (by decide)) b (by rw[a.o.w0];exact Uq.2 rfl) (by rw[a.o.x];exact l);obtain⟨J,r⟩:∃J,Xr (J=fT (fT g (6,M.V.length) (RT W.heap.size [] 0 0 none)) (7,M.V.length) (RQ U.heap.size ⟨none,0⟩ [] 0 0 none)):=⟨_,rfl⟩
 rw[<-r.o]at S2;have af:Xr (J (0,0)=sS b 42 M.cells):=cM (by rw[r.o,au _ _ (bG (by decide)),au _ _ (bG (by decide))];exact u.o.w0);have ag:Xr (J (1,0)=cW M.hx (mh 46 (M.V.map (·.1)))):=cM (by rw[r.o,au _ _ (bG (by decide)),au _ _ (bG (by decide))];exact u.o.x);have ai:Xr (J (2,0)=cW M.hm (mh 47 (M.V.map (·.2.1)))):=cM (by rw[r.o,au _ _ (bG (by decide)),au _ _ (bG (by decide))];exact u.o.m);obtain⟨X,B⟩:=bm (W.heap.size);obtain⟨Y,F⟩:=bm (U.heap.size);rw[B.o,F.o]at r;rw[B.o,F.o];go_upto_region 7 with (at_builtin;refine dB w2 rfl (.tmp 29) (.tmp 31) 31 rfl iX (pointer none) 8 M.hx (mh 46 (M.V.map (·.1))) [Qw X] underlying31 ar P Q R rfl UA (by rw[E.o];simp[Act.eval]) G an.o (by omega) (by simp[Act.eval]) rfl (by simp[Qw,Value.oneCell']) ?_;intro c w5 p k;rw[AH]at p;have S:=k.Yu.get a.o.Yv y.o;have f5:=am S;have c5:w5.cell? ⟨b,0,none⟩=some (slice M.hx.ao M.V.length M.hx.cap):=(by rw[ah S];rfl);have z5:=aj S)
 rw[E.o];have v:Xr _:=(S2.o.grown af.o (bG (by decide)) ag.o k p 0 (slice c.ao (M.V.length+1) c.cap));obtain⟨Z,ad⟩:=bm (w5.setCell ⟨b,0,none⟩ (slice c.ao (M.V.length+1) c.cap));rw[ad.o]at v ⊢;have d:Xr _:=bV (fT J (1,0) (cW c (mh 46 (M.V.map (·.1)++[X])))) (0,0) (sS b 42 (M.cells.set 0 (slice c.ao (M.V.length+1) c.cap)));obtain⟨J6,i⟩:=bm (fT (fT J (1,0) (cW c (mh 46 (M.V.map (·.1)++[X])))) (0,0) (sS b 42 (M.cells.set 0 (slice c.ao (M.V.length+1) c.cap))));have j:Xr (J6 (2,0)=cW M.hm (mh 47 (M.V.map (·.2.1)))):=cM (by rw[<-i.o,au _ _ (bG (by decide)),au _ _ (bG (by decide))];exact ai.o);rw[i.o]at v d;have b6:Z.heap[b]?=some (.cells (M.cells.set 0 (slice c.ao (M.V.length+1) c.cap)).toArray 42):=by
  have:=v.o.all (0,0);rw[d.o]at this;exact this
 have ac:Xr _:=b6;have H:aB Z M.hm (mh 47 (M.V.map (·.2.1))):=by
  have:=v.o.all (2,0);rw[j.o]at this;exact this
 have f:Xr (b∉M.hm.Yv.toList):=fun l=>v.o.far (0,0) (2,0) (bG (by decide)) b (by rw[d.o];exact Uq.2 rfl) (by rw[j.o];exact l);clear S f5 c5 z5 p k c0 G;have c1:Z.cell? ⟨b,1,none⟩=some (slice M.hm.ao M.V.length M.hm.cap):=by rw[ah b6];rfl
 clear b6;go_wp2_with (at_builtin;refine dB Z rfl (.tmp 39) (.tmp 41) 32 rfl iM (pointer none) 8 M.hm (mh 47 (M.V.map (·.2.1))) [Qw Y] underlying32 ap L N O rfl UA (by rw[z.o];simp[Act.eval]) H al.o (by omega) (by simp[Act.eval]) rfl (by simp[Qw,Value.oneCell']) ?_;intro h7 w7 K I;rw[AH]at K;have p7:=I.Yu.get ac.o f.o;have f7:=am p7;have c7:w7.cell? ⟨b,1,none⟩=some (slice M.hm.ao M.V.length M.hm.cap):=(by rw[ah p7];rfl);have z7:=aj p7;rw[z.o]);go_ret;have S7:=v.o.grown d.o (bG (by decide)) j.o I K 1 (slice h7.ao (M.V.length+1) h7.cap);rw[<-i.o]at S7;exact⟨rfl,u.o.addV r.o S7⟩
end Go.Proofs.YtnbhnocdhbcbcaaGreat
