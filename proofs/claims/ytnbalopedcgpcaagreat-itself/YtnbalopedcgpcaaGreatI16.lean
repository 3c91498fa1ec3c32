import Derived.Test.YtnbalopedcgpcaaGreatI07
import Derived.Test.YtnbalopedcgpcaaGreatI15
namespace Go.Proofs.YtnbalopedcgpcaaGreat
open Go.RowKit Tryz
open Value IntKind Ending
set_option linter.all false
set_option maxHeartbeats 0
variable{T I c:Nat}{k:List Q}{D z1:Q}{H:Db}{z5:ie}{v:Vq}{p:Db->Prop}{M:Vs}{z7:Vq->Vs}{z6:List Rw}(n b:List Q)(q:Vs)(z3:List Bool)(z4:List Vs)(z2:Vs)(m:Vq)(s:Vq->Vs)(f:Vq)(o:Nat)(N:Q)(u:Pl)(x:Fs)(w:Nat)(t:Vu)(L:Vs)(z0:UInt8)
def vg(R:List Q)(a:Nat)(vs:Vs)(k i j:Nat):Bool:=(List.range k).any (λn=>lT R a n&&(aI vs (symsAt R n)).contains i&&(aI vs (symsAt R n)).contains j)
theorem FN(a:Vu)(b:List Bool)(q:Nat)(d:q<b.length):(kr o w a b).getD q false=(b.getD q false||a.any (λc=>w*o+c==q)):=by unfold kr;induction a generalizing b with|nil=>simp|cons m a e=>grind
theorem FM(r:Vu)(a:List Bool)(q:Nat)(d:q<a.length):(r.foldl (λa b=>kr w b t a) a).getD q false=(a.getD q false||r.any (λb=>t.any (λc=>b*w+c==q))):=by induction r generalizing a with|nil=>simp|cons m r e=>grind [kr,qo,FN]
theorem Gh{a b:Nat}(f:b<T)(g:c<T)(h:a*T+b=I*T+c):a=I/\b=c:=by (have d:(a*T+b) / T=a:=by rw[Nat.mul_comm,Nat.mul_add_div (by omega)];simp_all);(have e:(I*T+c) / T=I:=by rw[Nat.mul_comm,Nat.mul_add_div (by omega)];simp_all);grind
theorem M5(k i j:Nat)(e:i<L.length)(f:j<L.length):(cJ b w L k).getD (i*L.length+j) false=vg b w L k i j:=by have q:=Cb e f;induction k with|zero=>grind [vg,cJ]|succ k m=>(have d:vg b w L (k+1) i j=(vg b w L k i j||(lT b w k&&(aI L (symsAt b k)).contains i&&(aI L (symsAt b k)).contains j)):=by grind [vg]);rw[d,cJ];cases o:lT b w k;{grind};{simp only[if_true,Bool.true_and];unfold lu;rw[FM _ _ _ _ _ (by grind [jT]),m];congr 1;rw[Xm];simp only[List.any_eq_true,Bool.and_eq_true,List.contains_iff_mem,beq_iff_eq];constructor;{rintro ⟨r,n,s,c,p⟩;obtain⟨l,a⟩:=WS c;have g:=oQ L (symsAt b k) l a.1;grind [Gh]};grind}
theorem AY(i j:Nat)(a:i<L.length)(c:j<L.length):cS L.length (aQ b w L) i j=(!(i==j)&&vg b w L b.length i j):=by grind [cS,aQ,M5]
theorem mq{α:Type}(l:Vu)(f g:Nat->List α)(h:∀x∈l,f x=g x):l.flatMap f=l.flatMap g:=by induction l with|nil=>rfl|cons a l b=>grind
def nS(l N:List Q)(a:Nat):Vs:=((List.range N.length).filter (λj=>nk (l++N) a (l.length+j))).flatMap (symsAt N)
def Hy(vs:Vs)(A:Nat->Nat->Bool):List Pr:=(List.range vs.length).flatMap (λi=>((List.range vs.length).filter (λj=>decide (i<j)&&A i j)).map (λj=>(gD vs i,gD vs j)))
theorem zbH:wI L (aQ b w L)=Hy L (λi j=>!(i==j)&&vg b w L b.length i j):=by unfold wI qz Hy lz;refine mq _ _ _ (λi a=>?_);have a:=VD.1 a;congr 1;exact Xt (by grind [AY])
def AQ(p:Pl):Prop:=(-1000000000<=p.Zab/\p.Zab<=1000000000)/\gK p
structure Gd(d:Db)(m:Nat):Prop where
 bnd:mM d m
 now:kI d.ZT<=m/\∀x∈d.ZT,AQ x.2
 ZZ:∀s∈d.ZZ,0<s.ZI.length/\s.ZI.length<=m/\s.ZT.length<=m/\kI s.ZT<=m/\(∀x∈s.ZT,AQ x.2)/\AQ s.Z8
theorem JV(l:List (Vq×Pl))(x:Vq×Pl):kI (l++[x])=kI l+x.1.size:=by simp[kI]
theorem zd(h:D∈dy k T):∃a∈k,D.ZI=a.ZI/\D.ZT=a.ZT/\D.Z8=a.Z8:=by grind [dy,gR,dq]
theorem Gd.take(h:Gd H T)(x:Vq)(p:Pl)(n:Nat)(w:x.size<=n)(u:1<=n)(l:AQ p):Gd (aO H x p).2 (T+n):=by have v:=h.bnd.ZT;have m:=h.bnd.ZK;refine⟨((h.bnd.take x p).mono (m':=T+n) (by omega)),?_,?_⟩;{rcases J6 H x p with e | e | e;{rw[e];exact⟨by have:=h.now.1;omega,h.now.2⟩};{grind [kI]};{rw[e];refine⟨by rw[JV];have:=h.now.1;grind,λy c=>?_⟩;rcases VG.1 c with c | c;{exact h.now.2 y c};{rwa [VO.1 c]}}};{rcases qM H x p with e | ⟨y,_,e⟩ | ⟨e,b⟩;{rw[e];intro s a;have⟨f,g,i,j,k⟩:=h.ZZ s a;grind};{rw[e];intro s a;have⟨o,d,q,r,t⟩:=zd a;have⟨f,g,i,j,k⟩:=h.ZZ o d;grind};{rw[e];intro s a;rcases VG.1 a with a | a;{have⟨f,g,i,j,k⟩:=h.ZZ s a;grind};{rw[VO.1 a];exact⟨b,by grind,by grind,by have:=h.now.1;grind,h.now.2,l⟩}}}
theorem Gd.empty:Gd bK 0:=⟨mM.empty,by simp[bK,kI],by simp[bK]⟩
theorem zL(b:w<=f.size):(bA f w).1.text.size<=(bA f w).2-w/\(bA f w).1.pos<=f.size:=by have a:=kZ f w b;unfold bA;simp only;split;{exact⟨by simp[ByteArray.size],(i6 f (skip f w) a.2).2⟩};{split;{exact⟨by simp[ByteArray.size],by grind⟩};{refine⟨?_,by grind⟩;simp only[ByteArray.size_extract];omega}}
theorem xO(k:Nat)(b:k<=f.size):(bj f k).1.pos<=f.size:=by unfold bj;generalize f.size-k+1=a;induction a generalizing k with|zero=>simp[bY,b]|succ a c=>grind [zL,gy,bY,bA]
theorem Jk(k:Nat)(b:k<=f.size):(aG (au f k).1=true->(au f k).1.text.size<=(au f k).2-k)/\(au f k).1.pos<=f.size:=by unfold au;generalize f.size-k+1=a;induction a generalizing k with|zero=>grind [cT,aG]|succ a c=>grind [zL,gy,cT,fV,bA,xO]
theorem Pf(c:w<=1024):AQ (gZ m f w):=by have a:=Pg f w;have b:=xc f w;unfold AQ gK gZ;grind
def SN(fs:Fs)(bg:List Bool)(m:Nat)(r:Ss):Prop :=
 r.2.1.length=4/\fP fs r.2.1<=fP fs bg/\∃m',Gd r.2.2 m'/\m'+fP fs r.2.1<=m+fP fs bg
theorem Mx(b:∀j,j<x.length->(aw x j).size<=1024)(a:Nat):(aw x a).size<=1024:=by rcases Yd a x.length with h | h;{grind};{(have:(aw x a).size=0:=by unfold aw;rw[Vz,Xl h];rfl);omega}
theorem N8(l:∀j,j<x.length->(aw x j).size<=1024)(f:Nat)(q:∀j b d m,b.length=4->Gd d m->SN x b m (dz x f j b d))(a k:Nat)(b:List Bool)(d:Db)(m:Nat)(o:k<=(aw x a).size)(i:b.length=4)(g:Gd d m)(p:aG (au (aw x a) k).1=true) :
  SN x b (m+((au (aw x a) k).2-k)) (ii x f a k b d).1/\(au (aw x a) k).2<=(ii x f a k b d).2/\(ii x f a k b d).2<=(aw x a).size:=by have n:=fG (aw x a) k o;have r:=n.2.2 p;have s:=Jk (aw x a) k o;have c:=Mx x l a;unfold ii jX;split;{unfold pL;split;{exact⟨⟨i,Vy _,m,g,by simp only;omega⟩,Vy _,n.2.1⟩};{next j y t => have e:=q j b d m i g;refine⟨⟨e.1,e.2.1,?_⟩,?_⟩;{have⟨u,v,w⟩:=e.2.2;grind};grind [IQ,fG,aw,au]}};{refine⟨⟨i,Vy _,m+((au (aw x a) k).2-k),g.take _ _ _ (s.1 p) (by omega) (Pf _ _ _ (by omega)),by simp⟩,Vy _,n.2.1⟩}
theorem Lf(n:∀j,j<x.length->(aw x j).size<=1024)(f:Nat):(∀b k a d m,k<=(aw x b).size->a.length=4->Gd d m->(cB x f b k a d).2.1.length=4/\fP x (cB x f b k a d).2.1<=fP x a/\∃c,Gd (cB x f b k a d).2.2 c/\c+fP x (cB x f b k a d).2.1<=m+((aw x b).size-k)+fP x a) /\
  (∀j a d m,a.length=4->Gd d m->SN x a m (dz x f j a d)):=by
 have i:∀f,(∀b k a d m,k<=(aw x b).size->a.length=4->Gd d m->(cB x f b k a d).2.1.length=4/\fP x (cB x f b k a d).2.1<=fP x a/\∃c,Gd (cB x f b k a d).2.2 c/\c+fP x (cB x f b k a d).2.1<=m+((aw x b).size-k)+fP x a) ->
   (∀j a d m,a.length=4->Gd d m->SN x a m (dz x f j a d)):=by
  intro f h j a d m g e;unfold dz;split
  ·exact⟨g,Vy _,m,e,Vy _⟩
  ·next y =>
   have l:a.getD j true=false:=(by grind);have z:=zb x a j g l;have:=h j 0 (a.set j true) d m (WD _) (by grind) e;refine⟨this.1,by omega,?_⟩
   grind
 induction f with
 | zero =>
  (grind [aw,cB,fP])
 | succ f r =>
  (have w:∀b k a d m,k<=(aw x b).size->a.length=4->Gd d m->(cB x (f+1) b k a d).2.1.length=4/\fP x (cB x (f+1) b k a d).2.1<=fP x a/\∃c,Gd (cB x (f+1) b k a d).2.2 c/\c+fP x (cB x (f+1) b k a d).2.1<=m+((aw x b).size-k)+fP x a:=by intro b k a d m p g e;cases q:aG (au (aw x b) k).1 with|true=>{have B:=fG (aw x b) k p;have⟨⟨t,G,s,u,H⟩,I,v⟩:=N8 x n f r.2 b k a d m p g e q;cases o:((ii x f b k a d).1.1.1==0) with|true=>rw[Lg x f b k a d q o];have⟨C,D,A,E,F⟩:=r.1 b (ii x f b k a d).2 (ii x f b k a d).1.2.1 (ii x f b k a d).1.2.2 s v t u;grind|false=>grind [wY]}|false=>by_cases o:(au (aw x b) k).1.Z8=true/\eP d=false;{grind [CP]};grind [yC]);(grind)
def zao(l:List Q):Prop:=∀s∈l,gK s.Z8/\∀x∈s.ZT,gK x.2
structure OO(l:List Q):Prop where
 ok:eU l
 prf:∀i (hi:i<l.length),lh l[i]
 lns:zao l
theorem Gv(c:∀j,j<x.length->(aw x j).size<=1024)(k:Nat):OO (d8 x k).2.2.ZZ:=by (have⟨_,_,m,a,o⟩:=(Lf x c 5000).2 k Hp bK 0 rfl Gd.empty;have l:=xd x c Hp;have g:m<=4104:=by omega);have n:=a.bnd.ZZ;unfold d8;refine⟨⟨by omega,λi b=>?_,λi b=>?_,λi b=>?_⟩,λi b=>⟨?_,?_⟩,?_⟩;{exact(a.ZZ _ (by simp)).1};{have:=(a.ZZ _ (VZ b)).2.1;omega};{have:=(a.ZZ _ (VZ b)).2.2.1;omega};{have:=(a.ZZ _ (VZ b)).2.2.2.1;omega};{exact λe d=>((a.ZZ _ (by simp)).2.2.2.2.1 e d).1};{exact λs f=>⟨(a.ZZ s f).2.2.2.2.2.2,λe d=>((a.ZZ s f).2.2.2.2.1 e d).2⟩}
theorem kV(a:w<4)(d:(aw x w).size<=1024)(b:OP (aw x w)) :
  d8 x w=(yp (cH x w) (aw x w) (dF (cH x w) (aw x w) 0 bK).1,Hp.set w true,(dF (cH x w) (aw x w) 0 bK).2):=by
 unfold d8 dz;have c:Hp.getD w true=false:=by
  match w,a with
  | 0,_=>rfl
  | 1,_=>rfl
  | 2,_=>rfl
  | 3,_=>rfl
 (grind [PP])
theorem ip(a:f.size<=1024)(b:dV f=false):OO (bz f).2.ZZ:=by
 have h:=Gv [(⟨#[109]⟩,f)] (λj c=>by
  have:j=0:=by grind
  subst this;exact a) 0
 rw[kV [(⟨#[109]⟩,f)] 0 (by omega) a (tS f b)]at h;exact h
theorem nK(h:w<=n.length):cn (n++b) o w=cn n o w:=by grind [cn]
theorem qg(h:w<=o):cn b o w=false:=by grind [cn]
theorem qb(k:Nat)(p q:Nat->Bool)(h:∀n,n<w->p n=q n)(b:∀n,w<=n->p n=false):(List.range (w+k)).filter p=(List.range w).filter q:=by induction k with|zero=>exact Xt (by grind)|succ k a=>rw[<-Xj,WG,WB,a];grind
theorem Fb{α:Type}(l:Vu)(p q:Nat->Option α)(h:∀x∈l,p x=q x):l.filterMap p=l.filterMap q:=by induction l with|nil=>rfl|cons x r a=>grind
theorem yh{α:Type}(k:Nat)(p q:Nat->Option α)(h:∀n,n<w->p n=q n)(b:∀n,w<=n->p n=none):(List.range (w+k)).filterMap p=(List.range w).filterMap q:=by induction k with|zero=>grind [Fb]|succ k a=>rw[<-Xj,WG,Xr,a];grind
theorem My(p q:Nat->Bool)(h:∀n,n<o->p n=q n)(a:∀n,o<=n->p n=false):(List.range (o+w)).find? p=(List.range o).find? q:=by rw[<-List.head?_filter,<-List.head?_filter,qb o w p q h a]
theorem yj(h:w<=n.length):cd (n++b) f w=cd n f w:=by grind [cd,My,jl,nK,qg]
theorem vf(h:w<n.length):symsAt (n++b) w=symsAt n w:=by grind [symsAt]
theorem G7(h:w<n.length):cK (n++b) w=cK n w:=by unfold cK fS;rw[Vx,qb n.length b.length (nk (n++b) w) (nk n w),vf n b w h];{congr 1;rw[YR,YR];congr 1;refine Wm (λx c=>vf n b x ?_);have:=(WC.1 c).1;simpa using this};{intro d a;unfold nk;rw[V0 a,nK n b d w (by omega)]};grind [nk,qg]
theorem uz(h:w<n.length):ae (n++b) w=ae n w:=by unfold ae eK;grind [G7,qb,gQ,nK,qg]
theorem De(h:w<n.length)(a:Vs)(k:Nat)(c:k<=n.length):cJ (n++b) w a k=cJ n w a k:=by induction k with|zero=>rfl|succ k d=>grind [lT,nK,cJ,vf]
theorem za(h:w<n.length)(a:Vs):aQ (n++b) w a=aQ n w a:=by unfold aQ;rw[Vx];generalize b.length=k;induction k with|zero=>grind [De]|succ k c=>grind [cJ,lT,qg]
theorem Te(h:w<n.length):fe (n++b) w=fe n w:=by grind [fe,rH,yh,xG,nK,qg]
theorem Il(h:w<n.length)(d:Pl)(c:List (Vq×Pl)):∀i a,cA (n++b) w d i c a=cA n w d i c a:=by induction c with|nil=>intro i a;rfl|cons x r e=>grind [cA,yj]
theorem Nf(h:w<n.length)(d:Pl)(c:List (Vq×Pl)):∀a,dn (n++b) w d c a=dn n w d c a:=by induction c with|nil=>intro a;rfl|cons x r e=>grind [dn,yj]
theorem QS(h:w<n.length)(s:Q):bW (n++b) w s=bW n w s:=by grind [bW,iP,nE,Nf,uz,Il]
theorem uv(h:w<n.length):(n++b).getD w bu=n.getD w bu:=by grind
theorem E5(c:Vu)(h:∀x∈c,x<n.length):∀a S,gP (n++b) c a S=gP n c a S:=by induction c with|nil=>grind [gP]|cons x r d=>{intro a S;cases a with|nil=>rfl|cons e a=>grind [gP,uv]}
theorem MT(h:w<n.length)(S:OG)(c:Vs)(a:List Bool):iC (n++b) w S c a=iC n w S c a:=by grind [iC,nM,za]
theorem Ig(h:w<n.length)(d:Vs)(a:List Bool)(c:List Vs):eH (n++b) w d a c=eH n w d a c:=by unfold eH ni;grind [uz,uv,E5,yG,MT]
theorem B0(a:List Vs)(s:eB)(h:(s.Z3==3)=false->s.ZJ<n.length):dK (n++b) q z3 z4 a s=dK n q z3 z4 a s:=by grind [dK,gM,Ig,uz,uv]
theorem Du(a:List eB)(h:∀s∈a,(s.Z3==3)=false->s.ZJ<n.length) :
  ∀S,cr (n++b) q z3 u L a S=cr n q z3 u L a S:=by induction a with|nil=>intro S;rfl|cons s r c=>grind [playF,B0,cr]
theorem IW(d:eU n)(a:w<n.length)(c:lh n[w])(L:List Rw):cY (n++b) w n[w] L=cY n w n[w] L:=by unfold cY dB;rw[QS n b w a,Te n b w a,za n b w a,Du n b _ _ _ _ _ (zx n w d a c).named]
theorem Qx(d:eU n)(c:w<n.length)(a:lh n[w])(L:List Rw):jm (n++b) w L=jm n w L:=by grind [jm,IW]
theorem DQ(f:eU n)(a:∀i (c:i<n.length),lh n[i])(k:Nat)(d:k<=n.length):aK (n++b) k=aK n k:=by induction k with|zero=>rfl|succ k e=>grind [aK,Qx]
def jy(l:List Q):List Rw:=(aK l l.length).filter (λr=>!(r.ZO==0))
theorem NP(f:eU n)(a:∀i (c:i<n.length),lh n[i]):∃t,jy (n++b)=jy n++t:=by (have h:∀k,∃t,aK (n++b) (n.length+k)=aK n n.length++t:=by intro k;induction k with|zero=>exact⟨[],by grind [DQ]⟩|succ k e=>grind [aK]);obtain⟨t,d⟩:=h b.length;refine⟨t.filter (λr=>!(r.ZO==0)),?_⟩;grind [jy]
theorem FI:gK cQ:=by unfold gK cQ;simp
theorem mx:gK cD.2:=by unfold gK cD;simp
theorem zbo{p:Pl}(h:gK p)(c:Int):gK { p with Zab:=c }:=h
theorem Uj(d:gK u)(c:List (Vq×Pl))(e:∀x∈c,gK x.2):∀a,(∀s∈a,gK s.at_)->(∀s∈(dn b o u c a).1,gK s.at_)/\gK (dn b o u c a).2.2:=by induction c with|nil=>grind [dn,mx]|cons x r f=>grind [gK,dn]
theorem Pd(d:gK u)(a:List (Vq×Pl))(e:∀x∈a,gK x.2):∀i c,gK (cA b o u i a c).1.2.2:=by induction a with|nil=>intro i c;exact d|cons x r f=>grind [cA,mx]
def vA(c:ie):Prop:=∀s∈c.steps,gK s.at_
theorem If(h:vA z5)(s:eB)(b:gK s.at_):∀x∈z5.steps++[s],gK x.at_:=by intro x a;rcases VG.1 a with a | a;{exact h x a};{rwa [VO.1 a]}
theorem zbm(h:vA z5)(n:Nat)(p:Pl)(a:gK p):vA (aY z5 n p).2:=by unfold aY;split;{unfold eX;split;{exact If h _ a};{split;{exact If h _ a};{exact h}}};{split;{unfold eZ;split <;> exact h};{split;{exact h};{split;{exact If h _ a};{exact h}}}}
theorem zac(b:gK u)(a:Nat):∀j c,vA c->vA (d9 f u a j c).2/\gK (d9 f u a j c).1.2:=by induction a with|zero=>intro j c h;exact⟨h,mx⟩|succ a d=>grind [d9,zbm,zbo,mx]
theorem Sj(a:List (Vq×Pl))(d:∀x∈a,gK x.2):∀c,vA c->vA (jF a c).2/\gK (jF a c).1.2:=by induction a with|nil=>intro c h;exact⟨h,mx⟩|cons x r e=>intro c h;have⟨t,p⟩:=x;have b:=zac t p (d (t,p) (by simp)) (t.size+1) 0 c h;rw[jF];split;{exact e (by grind) _ b.1};{exact b}
theorem zbG(d:gK N.Z8)(e:∀x∈N.ZT,gK x.2):(∀x∈(bW b o N).1,gK x.at_)/\gK (bW b o N).2.2:=by unfold bW;split;{(unfold iP;have c:vA (nE b o N).2/\gK (nE b o N).1.2:=by unfold nE Dn;split;{exact Sj _ (by grind) _ (by intro x a;cases a)};{exact⟨(by intro x a;cases a),Pd b o N.Z8 d _ (by grind) ..⟩});unfold mo;split;{split;{split;{grind};{exact⟨c.1,mx⟩}};grind};grind};grind [Uj]
theorem Uu(d:gK u)(c:Vs)(a:List eB)(h:∀x∈a,gK x.at_):∀S,gK (cr b q z3 u c a S).2:=by induction a with|nil=>intro S;rw[cr];unfold yU;split;{exact d};{split;{exact mx};{exact d}};{exact d}|cons s r e=>grind [cr]
theorem Qb(L:List Rw)(d:gK N.Z8)(g:∀x∈N.ZT,gK x.2):gK (cY b o N L).at_:=by (have c:=zbG b o N d g;unfold cY;have a:gK (if(ph (bW b o N).1).isNone=true/\((bW b o N).2.1==0)=true then dB b o N (bW b o N).1 else(bW b o N).2).2:=by split;{exact Uu _ _ _ _ d _ _ c.1 _};{exact c.2});generalize (if(ph (bW b o N).1).isNone=true/\((bW b o N).2.1==0)=true then dB b o N (bW b o N).1 else(bW b o N).2)=f at *;unfold io;split;{split;{next u i => show gK (((bW b o N).1[u]?).map eB.at_ |>.getD cQ);cases e:(bW b o N).1[u]? with|none=>exact FI|some x=>exact c.1 x (by grind)};{split <;> exact FI}};{exact a}
theorem zcV(h:zao b)(k:Nat):∀r∈aK b k,gK r.at_:=by induction k with|zero=>intro r a;cases a|succ k d=>{intro r a;rw[aK]at a;rcases VG.1 a with a | a;{exact d r a};{rw[VO.1 a];unfold jm;split;{next s e => have c:=h s (by grind);split;{exact FI};{split;{exact Qb b k s _ c.1 c.2};{exact FI}}};{exact FI}}}
theorem OO.rows(h:OO k):Et (jy k):=by refine⟨?_,λr b=>zcV k h.lns _ r (WC.1 b).1⟩;have a:=Xg (λr:Rw=>!(r.ZO==0)) (aK k k.length);rw[kM]at a;have:=h.ok.len;unfold jy;omega
def aZ(T:Vq):List Rw:=jy (bz T).2.ZZ
theorem NR(a:dE m):∃b,aZ (m++⟨#[10]⟩++f)=aZ m++b:=by have⟨b,c⟩:=Qj m f a;have g:=ip m a.size a.inc;unfold aZ;rw[c];exact NP _ b g.ok g.prf
def so(l:List Q)(vs:Vs)(ms:List Bool)(A:List eB)(S S':List Vs×List Vs):Prop:=∀Z8 goal B,cr l vs ms Z8 goal (A++B) S=cr l vs ms Z8 goal B S'
section
variable {l:List Q} {vs:Vs} {ms:List Bool} {A B:List eB} {S S1 S2:List Vs×List Vs}
theorem so.nil:so l vs ms [] S S:=λ_ _ _=>rfl
theorem so.app(h:so l vs ms A S S1)(g:so l vs ms B S1 S2):so l vs ms (A++B) S S2:=λb a X=>by rw[Wg,h,g]
theorem so.one{s:eB}{e:Vs}{a:List Vs}(h:dK l vs ms S.1 S.2 s=((0,e),a))(d:e.length<=32):so l vs ms [s] S (S.1++[e],a++[e]):=λc b B=>by
 show cr l vs ms c b (s :: B) S=_;have f:playF l vs ms S s=(0,S.1++[e],a++[e]):=by
  unfold playF;rw[h];simp only[beq_self_eq_true,if_true];rw[VQ d]
 rw[cr,f];simp
end
section
theorem M1{α β:Type}{f:α->β}{A:List α}{x y:List β}(h:A.map f=x++y):∃a b,A=a++b/\a.map f=x/\b.map f=y:=by have⟨a,b,c,d,e⟩:=YM.1 h;grind
end
def pV(d:Db):Prop:=d.Z3=0->d.ZT=[]
theorem FV(h:pV H)(x:Vq)(p:Pl):pV (aO H x p).2:=by (have b:∀d:Db,d.ZT=H.ZT->(d.Z3=0->H.Z3=0)->pV d:=λd f g c=>by rw[f];exact h (g c));unfold aO;split;{next c => (have a:H.Z3=0:=by simpa using c);unfold aE;split;{exact b _ rfl (λ_=>a)};{split;{split;{exact h};{unfold fB;split <;> exact b _ rfl (λ_=>a)}};{split;{split;{exact h};{exact b _ rfl (λ_=>a)}};{split;{exact b _ rfl (λ_=>a)};{split;{exact b _ rfl (λ_=>a)};{split;{exact h};{unfold bM;(repeat' split);all_goals first | exact h | exact b _ rfl (λ_=>a)}}}}}}};{next a => split;{unfold aX;(repeat' split);all_goals first | exact h | exact λc=>by simp at c};{split;{unfold lm;split;{exact h};{split;{exact h};{exact λ_=>rfl}}};{split;{unfold cE;split;{exact h};{exact b _ rfl (λc=>c)}};{split;{exact h};{split;{intro c;have e:H.Z3=0:=c;rw[e]at a;simp at a};{split;{exact b _ rfl (λc=>c)};{exact h}}}}}}}
theorem Dl:pV bK:=λ_=>rfl
theorem zec(a:Nat):∀k d,pV d->pV (dC m f a k d).2:=by induction a with|zero=>intro k d h;exact h|succ a b=>grind [dC,FV]
theorem dE.left(h:dE v):eP (bz v).2=false/\(bz v).2.ZT=[]/\pV (bz v).2:=by have a:pV (bz v).2:=zec ⟨#[109]⟩ v _ 0 bK Dl;have b:eP (bz v).2=false:=(ua (sK v ⟨#[]⟩) ⟨#[109]⟩ 0 bK (WD _) h.ok).1;refine⟨b,a ?_,a⟩;grind [eP]
theorem xL{b:Vq}(h:(v.toList==b.toList)=true):v=b:=by (have a:v.toList=b.toList:=by grind);apply YC;apply Array.toList_inj.1;rwa [<-Wc,<-Wc]
theorem Wd.noDollar(h:Wd v):eW v=false:=by unfold eW;rw[YN];intro i a;have:=(h.2 i (by grind)).2;grind
theorem Wd.notKey(h:Wd v)(c:UInt8):(v.toList == [36,c])=false:=by cases e:(v.toList == [36,c]);{rfl};{have⟨b,a,_⟩:=Oj v c e;exact absurd a (h.2 0 h.1).2}
theorem Ko(k z:Nat)(a:k<=z)(d:z<=f.size)(c:∀i,k<=i->i<z->eV (zeb f i)=true)(b:z=f.size∨db (zeb f z)=true):bL f k=z:=by obtain⟨n,rfl⟩:∃n,z=k+n:=⟨z-k,by omega⟩;clear a;induction n generalizing k with|zero=>grind [kB]|succ n e=>grind [db,zeb,eV,xy]
theorem Uf(b:o<w)(l:w<=f.size)(d:∀i,o<=i->i<w->eV (zeb f i)=true)(a:w=f.size∨db (zeb f w)=true)(j:((f.extract o w).toList == [36,40])=false) :
  au f o=(⟨f.extract o w,0,false,o⟩,w):=by
 (have m:=d o (Vy _) b;have g:db (zeb f o)=false:=by grind [eV,db]);have k:=mE f o (λh=>by rw[g]at h;simp at h)
 have c:=BU f o o w k.symm (by rw[Ko f o w (by omega) l d a];exact kB f w (λh=>by
   rcases a with e | e
   ·have:=h.1;omega
   ·rw[e]at h;simp at h)) (λh=>by
   rcases a with e | e
   ·have:=h.1;omega
   ·rw[e]at h;simp at h) b
 rw[jM f o (VH (c ▸ j)),c]
theorem By(b:w<f.size)(a:db (zeb f w)=true):au f w=au f (w+1):=by grind [sF,bA,m9]
theorem MO:aG ⟨f,0,false,w⟩=true:=by rfl
theorem UD(a:dE m):bz (m++⟨#[10]⟩++f)=dF ⟨#[109]⟩ (m++⟨#[10]⟩++f) (m.size+1) (bz m).2/\eP (bz m).2=false:=by have h:=ua (sK m f) ⟨#[109]⟩ 0 bK (WD _) a.ok;exact⟨h.2,h.1⟩
theorem yb(e:w+f.size<=m.size)(c:∀i,i<f.size->zeb m (w+i)=zeb f i):m.extract w (w+f.size)=f:=by apply Yn;{simp_all};{intro i d b;rw[XJ];have a:=c i b;rw[aR _ _ (by omega),aR _ _ b]at a;exact UInt8.toNat_inj.1 (by omega)}
theorem Nj(h:eP H=false):H.Z3=0/\H.Z6=[]:=by simp[eP,Bool.or_eq_false_iff,bne_eq_false_iff_eq,decide_eq_false_iff_not]at h;grind
structure Wrd(x:Vq):Prop where
 pos:0<x.size
 pl:∀i,i<x.size->eV (zeb x i)=true
 com:(x.toList == [36,40])=false
def dl:List (UInt8×Vq)->Vq
 | []=>⟨#[]⟩
 | (b,x) :: r=>⟨#[b]⟩++x++dl r
def wK:List (Vq×Pl)->Db->Option Db
 | [],d=>some d
 | (x,p) :: r,d=>if((aO d x p).1==0)=true then wK r (aO d x p).2 else none
def l9(n U:Vq):Nat->List (UInt8×Vq)->List (Vq×Pl)
 | _,[]=>[]
 | k,(_,x) :: r=>(x,gZ n U (k+1)) :: l9 n U (k+1+x.size) r
theorem GJ(a b:List (Vq×Pl))(d:Db):wK (a++b) d=(wK a d).bind (wK b):=by induction a generalizing d with|nil=>rfl|cons y a c=>grind [wK]
theorem Ay(L:List (UInt8×Vq))(k:Nat):(l9 m f k L).map (·.1)=L.map (·.2):=by induction L generalizing k with|nil=>rfl|cons y L a=>grind [l9]
theorem nil_append:f++⟨#[]⟩=f:=by apply YC;simp
theorem NC(L:List (UInt8×Vq))(u:∀y∈L,db (y.1.toNat:Int)=true/\Wrd y.2):∀(A:Vq) (d a:Db),wK (l9 f (A++dl L) A.size L) d=some a->eP a=false->dF f (A++dl L) A.size d=((0,0),a):=by
 induction L with
 | nil =>
  (intro A d a n z;have e:d=a:=by grind [l9,wK]);subst e;have O:A++dl []=A:=nil_append A;(grind [au,bA,jM,xm,aG,tZ])
 | cons y L F =>
  (have⟨b,x⟩:=y;intro A d a n z;have⟨v,k⟩:=u (b,x) (by simp);simp only at v k;have G:(⟨#[b]⟩:Vq).size=1:=rfl;have m:A++dl ((b,x) :: L)=(A++⟨#[b]⟩++x)++dl L:=by simp[dl,ByteArray.append_assoc]);(have l:(A++⟨#[b]⟩++x).size=A.size+1+x.size:=by grind);(have p:(A++dl ((b,x) :: L)).size=A.size+1+x.size+(dl L).size:=by grind);(have B:zeb (A++dl ((b,x) :: L)) A.size=(b.toNat:Int):=by rw[m,bT _ _ _ (by omega),bT _ _ _ (by grind)];have:=bI A ⟨#[b]⟩ 0 (by omega);rw[XB]at this;rw[this];rfl);(have t:∀i,i<x.size->zeb (A++dl ((b,x) :: L)) (A.size+1+i)=zeb x i:=by intro i E;rw[m,bT _ _ _ (by omega)];have:=bI (A++⟨#[b]⟩) x i E;rw[VC,G]at this;exact this);(have C:A.size+1+x.size=(A++dl ((b,x) :: L)).size∨db (zeb (A++dl ((b,x) :: L)) (A.size+1+x.size))=true:=by cases L with|nil=>left;rw[p];rfl|cons H s=>have⟨c,r⟩:=H;right;(have D:=(u (c,r) (by simp)).1;have I:zeb (A++dl ((b,x) :: (c,r) :: s)) (A.size+1+x.size)=(c.toNat:Int):=by rw[m];have:=bI (A++⟨#[b]⟩++x) (dl ((c,r) :: s)) 0 (by simp[dl,ByteArray.size_append];have:(⟨#[c]⟩:Vq).size=1:=rfl;omega);rw[XB,l]at this;rw[this];rfl);grind)
  have g:=yb (A++dl ((b,x) :: L)) x (A.size+1) (by omega) t;have w:=Uf (A++dl ((b,x) :: L)) (A.size+1) (A.size+1+x.size) (by have:=k.pos;omega) (by omega)
   (λi M N=>by rw[show i=A.size+1+(i-(A.size+1)) by omega,t _ (by omega)];exact k.pl _ (by omega)) C (by rw[g];exact k.com)
  rw[g]at w;have j:=By (A++dl ((b,x) :: L)) A.size (by omega) (B ▸ v);rw[w]at j;simp only[l9,wK]at n;split at n;{next K => (have q:aG (au (A++dl ((b,x) :: L)) A.size).1=true:=(by grind [MO]);rw[xl f _ A.size d (by omega) q (by grind),j];simp only;have o:wK (l9 f ((A++⟨#[b]⟩++x)++dl L) (A++⟨#[b]⟩++x).size L) (aO d x (gZ f (A++dl ((b,x) :: L)) (A.size+1))).2=some a:=by grind);have:=F (by grind) (A++⟨#[b]⟩++x) _ a o z;grind};(grind)
theorem ND(i:dE f)(b:UInt8)(x:Vq)(L:List (UInt8×Vq))(j:b=10)(g:∀y∈(b,x) :: L,db (y.1.toNat:Int)=true/\Wrd y.2)(a:Db)(m:wK (l9 ⟨#[109]⟩ (f++dl ((b,x) :: L)) f.size ((b,x) :: L)) (bz f).2=some a)(l:eP a=false):bz (f++dl ((b,x) :: L))=((0,0),a):=by (subst j;have e:f++dl ((10,x) :: L)=f++⟨#[10]⟩++(x++dl L):=by simp[dl,ByteArray.append_assoc]);(have d:=(UD f (x++dl L) i).1;rw[<-e]at d;rw[d];have k:zeb (f++dl ((10,x) :: L)) f.size=10:=by rw[e];exact(sK f _).lf);(have c:f.size<(f++dl ((10,x) :: L)).size:=by rw[e];exact(sK f _).lt);rw[<-sM ⟨#[109]⟩ _ f.size (f.size+1) (bz f).2 (by omega) (by omega) (By (f++dl ((10,x) :: L)) f.size c (by simp_all))];exact NC ⟨#[109]⟩ ((10,x) :: L) g f (bz f).2 a m l
def bG(ws:Vs)(d:Db)(R:Db->Prop):Prop:=∀l:List (Vq×Pl),l.map (·.1)=ws->∃d',wK l d=some d'/\R d'
theorem bG.nil(h:p H):bG [] H p:=by (intro l a;have:l=[]:=by simp_all);subst this;exact⟨H,rfl,h⟩
theorem bG.mono{b:Db->Prop}(h:bG M H p)(f:∀a,p a->b a):bG M H b:=by intro l c;have⟨a,d,e⟩:=h l c;grind
theorem bG.append{a:Vs}{R:Db->Prop}(h:bG a H R)(g:∀b,R b->bG M b p):bG (a++M) H p:=by (intro l c;have e:l=l.take a.length++l.drop a.length:=by simp);(have d:(l.take a.length).map (·.1)=a:=by rw[Yl,c];simp);(have f:(l.drop a.length).map (·.1)=M:=by rw[ZG,c];simp);have⟨b,k,i⟩:=h _ d;have⟨j,m,n⟩:=g b i _ f;grind [GJ]
theorem bG.one(h:∀a,(aO H v a).1=0/\p (aO H v a).2):bG [v] H p:=by
 intro l b
 match l,b with
 | [(y,a)],b =>
  (have:y=v:=by grind);subst this;refine⟨_,?_,(h a).2⟩;(grind [wK])
theorem bG.cons{R:Db->Prop}(h:∀c,(aO H v c).1=0/\R (aO H v c).2)(d:∀b,R b->bG M b p):bG (v :: M) H p:=bG.append (a:=[v]) (bG.one h) d
def kw(c:UInt8):Vq:=⟨#[36,c]⟩
theorem ko:(kw z0).toList=[36,z0]:=by simp[kw]
theorem zbj(h:33<=z0.toNat/\z0.toNat<=126)(a:z0≠40):Wrd (kw z0):=by
 refine⟨by show 0<2;omega,?_,?_⟩
 ·intro i b;have a:i<2:=b
  match i,a with
  | 0,_=>rfl
  | 1,_ =>
   have:zeb (kw z0) 1=(z0.toNat:Int):=rfl;(grind [eV])
 (grind [ko])
theorem Wd.wrd(h:Wd v):Wrd v:=⟨h.1,λi a=>(h.2 i a).1,h.notKey 40⟩
structure rC(d:Db):Prop where
 Z3:d.Z3=0
 syms:d.ZI=[]
 prf:d.ZM=false
 pr:d.ZT=[]
theorem zbT(h:rC H)(b:H.Z6=[])(p:Pl):aO H (kw 99) p=(0,{ H with Z3:=7 }):=by unfold aO;rw[VQ (by rw[h.Z3];rfl)];grind [aE,ko]
theorem zbV(h:rC H)(p:Pl):aO H (kw 118) p=(0,{ H with Z3:=8 }):=by unfold aO;rw[VQ (by rw[h.Z3];rfl)];grind [aE,ko]
theorem zbU(h:rC H)(p:Pl):aO H (kw 100) p=(0,{ H with Z3:=1 }):=by unfold aO;rw[VQ (by rw[h.Z3];rfl)];grind [aE,ko]
theorem Oe(h:rC H)(p:Pl):aO H (kw 123) p=(0,{ H with Z6:=H.Z6++[(H.ZR.length,H.ZU.length)],rbl:=H.rbl++[H.ZZ.length] }):=by unfold aO;rw[VQ (by rw[h.Z3];rfl)];grind [aE,ko]
theorem J5(h:rC H)(q:Nat×Nat)(a:H.Z6.getLast?=some q)(p:Pl):aO H (kw 125) p=(0,fB H q):=by unfold aO;rw[VQ (by rw[h.Z3];rfl)];grind [aE,ko]
theorem Aa(h:rC H)(x:Vq)(a:Wd x)(b:cN x=true)(c:dx H x=false)(p:Pl):aO H x p=(0,{ H with ZQ:=H.ZQ++[x],Z5:=x,Z3:=6 }):=by unfold aO;rw[VQ (by rw[h.Z3];rfl)];unfold aE;simp[a.notKey,Bool.false_eq_true,if_false,or_self];unfold bM;simp[a.noDollar,b,c]
theorem Vh{d:Db}(h:d.Z3=6)(c:UInt8)(k:Int)(b:(c=102/\k=2)∨(c=101/\k=3)∨(c=97/\k=4))(p:Pl):aO d (kw c) p=(0,{ d with Z3:=k }):=by grind [aO,aX,ko]
theorem Ha{d:Db}(c:d.Z3≠0)(e:d.Z3≠6)(g:d.ZM=false)(x:Vq)(a:Wd x)(f:aF d x=0)(p:Pl):aO d x p=(0,{ d with ZI:=d.ZI++[x] }):=by unfold aO;rw[VI (by grind),VI (by grind),VI (by rw[a.notKey];simp),VI (by rintro ⟨h,-⟩;rw[a.notKey]at h;cases h),VI (by rw[a.noDollar];simp),VI (by grind),VQ (by grind)]
theorem zZ{d:Db}(b:d.Z3≠0)(e:d.Z3≠6)(c:d.Z3≠5)(f:fM d<=d.ZI.length)(p:Pl):aO d (kw 46) p=(0,{ cG d p with Z3:=0,Z5:=⟨#[]⟩,ZI:=[],ZM:=false,ZT:=[] }):=by grind [aO,ko,lm]
theorem zN(a:Vs):∀(d:Db),d.Z3≠0->d.Z3≠6->d.ZM=false->(∀y∈a,Wd y)->(∀(c:Vs) y post,a=c++y :: post->aF { d with ZI:=d.ZI++c } y=0) ->
  bG a d (λf=>f={ d with ZI:=d.ZI++a }):=by induction a with|nil=>simp[bG.nil]|cons y a n=>intro d i j l m k;have b:=k [] y a rfl;simp[List.append_nil]at b;refine bG.cons (R:=λg=>g={ d with ZI:=d.ZI++[y] }) (λp=>by rw[Ha i j l y (m y (by simp)) b p];simp) ?_;grind
theorem zcK(h:rC H)(n:H.Z6=[])(x:Vq)(i:Wd x)(g:dx H x=false):bG [kw 99,x,kw 46] H (λf=>f={ H with ZK:=H.ZK++[x],Z5:=⟨#[]⟩ }):=by refine bG.cons (R:=λa=>a={ H with Z3:=7 }) (by grind [zbT]) ?_;rintro a rfl;refine bG.cons (R:=λa=>a={ H with Z3:=7,ZI:=[x] }) (λp=>?_) ?_;{rw[Ha (d:={ H with Z3:=7 }) (by simp) (by simp) h.prf x i ?_ p];{exact⟨rfl,by simp[h.syms]⟩};{unfold aF;rw[VQ (by rfl),VI];rintro (d | d);{have b:bi H.ZI x=true:=d;rw[h.syms]at b;simp[bi]at b};{exact Bool.noConfusion (g.symm.trans d)}}};{rintro a rfl;refine bG.one (λp=>?_);rw[zZ (d:={ H with Z3:=7,ZI:=[x] }) (by simp) (by simp) (by simp) (by simp[fM]) p];refine⟨rfl,?_⟩;have e:=h.Z3;have k:=h.syms;have l:=h.prf;have m:=h.pr;grind [cG]}
theorem JR(h:rC H)(a:Vq)(E:Wd a)(C:cN a=true)(D:dx H a=false)(c:UInt8)(k:Int)(q:(c=102/\k=2)∨(c=101/\k=3)∨(c=97/\k=4))(f:Vs)(s:∀y∈f,Wd y)(m:1<=f.length)(A:k=2->f.length=2)(n:∀(b:Vs) y d,f=b++y :: d->aF { H with Z3:=k,ZI:=b } y=0) :
  bG (a :: kw c :: (f++[kw 46])) H (λl=>∃p,l={ H with ZQ:=H.ZQ++[a],ZU:=if k=2 then H.ZU++[f.getD 1 ⟨#[]⟩] else H.ZU,ZZ:=H.ZZ++[⟨k,a,f,[],p,0⟩],Z5:=⟨#[]⟩ }):=by (have r:k=2∨k=3∨k=4:=by omega);refine bG.cons (R:=λi=>i={ H with ZQ:=H.ZQ++[a],Z5:=a,Z3:=6 }) (by grind [Aa]) ?_;rintro i rfl;refine bG.cons (R:=λi=>i={ H with ZQ:=H.ZQ++[a],Z5:=a,Z3:=k }) (λp=>by rw[Vh (d:={ H with ZQ:=H.ZQ++[a],Z5:=a,Z3:=6 }) rfl c k q];simp) ?_;rintro i rfl;refine bG.append (R:=λi=>i={ H with ZQ:=H.ZQ++[a],Z5:=a,Z3:=k,ZI:=f }) ?_ ?_;{refine(zN f { H with ZQ:=H.ZQ++[a],Z5:=a,Z3:=k } (by grind) (by grind) h.prf s ?_).mono ?_;{(intro b y d o;have B:=n b y d o;have e:aF { H with ZQ:=H.ZQ++[a],Z5:=a,Z3:=k,ZI:=H.ZI++b } y=aF { H with Z3:=k,ZI:=b } y:=by (rw[h.syms];unfold aF;have u:(k==7)=false:=by grind);have v:(k==8)=false:=(by grind);have t:(k==1)=false:=(by grind);simp[u,v,t,Bool.false_eq_true,if_false,List.nil_append];rfl);grind};{rintro l rfl;simp[h.syms]}};{rintro i rfl;refine bG.one (λp=>?_);rw[zZ (d:={ H with ZQ:=H.ZQ++[a],Z5:=a,Z3:=k,ZI:=f }) (by grind) (by grind) (by grind) ?_ p];{refine⟨rfl,p,?_⟩;have e:=h.Z3;have w:=h.syms;have x:=h.prf;have z:=h.pr;grind [cG,eA,rP]};grind [fM]}
theorem GK(h:rC H)(c:UInt8)(k:Int)(E:(c=118/\k=8)∨(c=100/\k=1))(d:Vs)(v:∀y∈d,Wd y)(r:1<=d.length)(C:k=1->2<=d.length)(q:d.Pairwise (λa b=>(a.toList==b.toList)=false))(t:∀y∈d,if k=8 then eR H y=false else bi H.ZR y=true) :
  bG (kw c :: (d++[kw 46])) H (λn=>∃p,n={ (if k=8 then fp { H with ZI:=d } d.length else { H with ZZ:=H.ZZ++[⟨1,H.Z5,d,[],p,0⟩] }) with Z3:=0,Z5:=⟨#[]⟩,ZI:=[],ZM:=false,ZT:=[] }):=by (have l:k=8∨k=1:=by omega);refine bG.cons (R:=λf=>f={ H with Z3:=k }) (λp=>?_) ?_;{grind [zbV,zbU]};rintro f rfl;refine bG.append (R:=λf=>f={ H with Z3:=k,ZI:=d }) ?_ ?_;{refine(zN d { H with Z3:=k } (by grind) (by grind) h.prf v ?_).mono ?_;{(intro m y s D;have w:y∈d:=(by grind);have g:=t y w;have u:bi m y=false:=by grind [bi]);rw[h.syms];unfold aF;rcases l with rfl | rfl;{rw[VQ rfl]at g;rw[VI (by simp),VQ (by rfl),VI];rintro (o | o);{grind};{exact Bool.noConfusion (g.symm.trans o)}};grind [iT,bi]};{rintro n rfl;simp[h.syms]}};{rintro f rfl;refine bG.one (λp=>?_);rw[zZ (d:={ H with Z3:=k,ZI:=d }) (by grind) (by grind) (by grind) ?_ p];{refine⟨rfl,p,?_⟩;have e:=h.Z3;have z:=h.syms;have A:=h.prf;have B:=h.pr;grind [cG,fp,eA,rP]};grind [fM]}
theorem Ro(h:rC H):bG [kw 123] H (λa=>a={ H with Z6:=H.Z6++[(H.ZR.length,H.ZU.length)],rbl:=H.rbl++[H.ZZ.length] }) :=
 bG.one (by grind [Oe])
theorem NU(h:rC H)(q:Nat×Nat)(b:H.Z6.getLast?=some q):bG [kw 125] H (λa=>a=fB H q) :=
 bG.one (by grind [J5])
theorem zbF(a:Vs)(x:Vq):aU a x=a.findIdx? (λy=>y.toList==x.toList):=by unfold aU;induction a with|nil=>rfl|cons y r b=>{rw[Ws,List.range_succ_eq_map,List.find?_cons,List.findIdx?_cons];cases h:(y.toList==x.toList) with|true=>simp[h]|false=>simp[List.getD_cons_zero,h,List.find?_map,Bool.false_eq_true,if_false];rw[<-b];rfl}
theorem lP(h:aU M v=some T):T<M.length:=by have:=XI h;grind
def iQ(l:List Q)(hs:Vu):Vs:=hs.filterMap (λh=>if((l.getD h bu).Z3==3)=true then none else some (az (l.getD h bu)))
structure HyO(l:List Q)(hs:Vu):Prop where
 two:∀h∈hs,((l.getD h bu).Z3==3)=false->(l.getD h bu).ZI=[bH (l.getD h bu),az (l.getD h bu)]
 ess:∀h∈hs,(l.getD h bu).ZI≠[]
 tc:∀h∈hs,aU (iQ l hs) (bH (l.getD h bu))=none
 uq:(iQ l hs).Nodup
 pre:∀ah h bs,hs=ah++h :: bs->((l.getD h bu).Z3==3)=true->∀x∈(l.getD h bu).ZI,aU (iQ l ah) x=none->aU (iQ l bs) x=none
theorem lY(a:Vu):iQ b (t++a)=iQ b t++iQ b a:=by grind [iQ]
theorem Pv{a b:Vs}(h:Ej a b=true):a=b:=by replace h:a.map (·.toList)=b.map (·.toList):=W0 h;induction a generalizing b with|nil=>simp_all|cons x r c=>{cases b with|nil=>simp at h|cons y t=>grind [dN]}
theorem dR:aU M v=none ↔ v∉M:=by grind [zbF,dN]
theorem zdj(X:Vs):∀a p,(p∈a∨∃x∈X,aU L x=some p)->p∈mS L X a:=by induction X with|nil=>{intro a p h;rcases h with h | ⟨x,b,-⟩;exact h;cases b}|cons y r c=>grind [mS,aU,ji]
abbrev cU (l:List Q) (n:Nat):List ByteArray:=iQ l (ae l n)
def InF(l:List Q)(n:Nat)(x:Vq):Prop:=x∈(l.getD n bu).ZI∨∃h∈ae l n,x∈(l.getD h bu).ZI
structure Mb(l:List Q)(n:Nat):Prop where
 hy:HyO l (ae l n)
 ne:(l.getD n bu).ZI≠[]
 tc:aU (cU l n) (bH (l.getD n bu))=none
theorem nR(c:M.Nodup){i:Nat}(d:i<M.length):aU M (M.getD i ⟨#[]⟩)=some i:=by (have b:M.getD i ⟨#[]⟩=M[i]:=by grind);cases g:aU M (M.getD i ⟨#[]⟩) with|none=>grind [dR]|some j=>have a:=lP g;have e:=YW g;have e:=dN (W0 e);rw[b,Vz,Vv a]at e;have:=(Zn c).1 (show M[j]=M[i] from e);rw[this]
section
variable {d:Db} {P:Vq->Prop}
theorem iB(a:k[T]?=some D):cn k T I=true ↔ T<I/\(D.til=0∨I<D.til):=by grind [cn]
theorem Bj(V:Vr d)(a:T<I)(f:d.ZZ[T]?=some D)(e:d.ZZ[I]?=some z1)(j:gX z1.Z3=false)(g:D.til=0∨I<D.til)(i:cn d.ZZ I c=true):cn d.ZZ T c=true:=by rw[iB e]at i;rw[iB f];refine⟨by omega,?_⟩;by_cases b:D.til=0;{omega};{have:=V.nest T I D z1 a f e j b (g.resolve_left b);omega}
theorem gL:I∈ae k T ↔ ∃s,k[I]?=some s/\cn k I T=true/\((s.Z3=2/\az s∈cK k T)∨s.Z3=3):=by grind [ae,eK,gQ,jx,gH]
theorem qL:v∈cK k T ↔ v∈symsAt k T∨∃(h:Nat) (s:Q),k[h]?=some s/\s.Z3=3/\cn k h T=true/\v∈s.ZI:=by unfold cK fS;rw[VG,Xe];refine or_congr Iff.rfl ⟨?_,?_⟩;{grind [nk,symsAt]};{rintro ⟨h,s,c,b,a,d⟩;refine⟨h,?_,by grind [symsAt]⟩;grind [nk]}
theorem lZ(h:k[T]?=some D):k.getD T bu=D:=by grind
theorem mJ(N:Nm P d)(g:d.ZZ[T]?=some D)(b:D.Z3=2):D.ZI=[bH D,az D]/\az D=LY D/\bH D∈d.ZK:=by
 have o:=N.ZZ D (by grind);have a:=o.two b;have⟨c,r,e,f⟩:=o.code (by omega);obtain⟨v,rfl⟩:∃v,r=[v]:=by
  rw[e]at a
  match r,a with
  | [v],_=>simp
 (grind [bH,LY,az,gH])
theorem oI:v∈cU k T ↔ ∃(n:Nat) (s:Q),k[n]?=some s/\cn k n T=true/\s.Z3=2/\az s=v/\v∈cK k T:=by unfold cU iQ;rw[WV];constructor;{grind [gL,lZ]};{rintro ⟨n,s,c,a,b,e,m⟩;refine⟨n,by grind [gL],?_⟩;grind}
theorem zco(N:Nm P d)(V:Vr d)(p:gM d.ZZ T=true)(a:InF d.ZZ T v):v∈d.ZK∨v∈cU d.ZZ T:=by (have c:∀{m:Nat} {s:Q},d.ZZ[m]?=some s->3<=s.Z3->v∈s.ZI->(m=T∨(gX s.Z3=false/\cn d.ZZ m T=true))->v∈cK d.ZZ T->v∈d.ZK∨v∈cU d.ZZ T:=by intro m s b g f q e;have n:=(N.ZZ s (by grind)).Z3;rcases V.st m s b (by omega) v f with h | ⟨-,h⟩;{grind};{have⟨k,u,r,i,j,t,w⟩:=h (by omega);refine VH (oI.2 ⟨k,u,i,?_,j,?_,e⟩);{grind [iB,Bj]};{rwa [(mJ N i j).2.1]}});rcases a with a | ⟨h,l,a⟩;{grind [gM,lZ,gX,qL,symsAt]};{have⟨s,b,o,g⟩:=gL.1 l;rw[lZ b]at a;rcases g with ⟨k,m⟩ | k;{grind [mJ,oI]};{exact c b (by omega) a (VH ⟨by rw[k];rfl,o⟩) (by grind [qL])}}
theorem zaT:xG k T I=some v ↔ ∃s,k[I]?=some s/\s.Z3=2/\cn k I T=true/\az s=v:=by grind [xG]
theorem ID(N:Nm P d)(V:Vr d)(b:d.ZZ[T]?=some D)(a:D.Z3=2):az D∈d.ZL:=by rw[(mJ N b a).2.1];exact V.fl T D b a
theorem zf(N:Nm P d)(V:Vr d)(h:v∈cU d.ZZ T):v∈d.ZL:=by grind [oI,ID]
theorem za5(N:Nm P d)(V:Vr d)(b:d.ZZ[I]?=some D)(f:d.ZZ[c]?=some z1)(g:D.Z3=2)(i:z1.Z3=2)(j:cn d.ZZ I T=true)(k:cn d.ZZ c T=true)(e:az D=az z1):I=c:=by rw[(mJ N b g).2.1,(mJ N f i).2.1]at e;rw[iB b]at j;rw[iB f]at k;rcases Zf I c with a | a | a;{exact absurd e (V.ds I c D z1 b f g i a (by omega))};{exact a};{exact absurd e.symm (V.ds c I z1 D f b i g a (by omega))}
theorem sA:(ae b w).Pairwise (· < ·):=by unfold ae eK;exact List.pairwise_lt_range.filter _
theorem KE(N:Nm P d)(V:Vr d)(R:gM d.ZZ T=true):Mb d.ZZ T:=by (have w:∀{m:Nat} {s:Q},d.ZZ[m]?=some s->2<=s.Z3/\s.Z3<=5->s.ZI≠[]/\aU (cU d.ZZ T) (bH s)=none:=by (intro m s a i;have⟨c,r,e,G⟩:=(N.ZZ s (by grind)).code i;refine⟨by grind,?_⟩;have t:bH s=c:=by grind [bH]);rw[t,dR];intro A;exact V.cv c ((gH ..).1 G) (zf N V A));(have b:∀h∈ae d.ZZ T,∃s,d.ZZ[h]?=some s/\cn d.ZZ h T=true/\(s.Z3=2∨s.Z3=3):=by grind [gL]);(have⟨U,o,H⟩:∃s,d.ZZ[T]?=some s/\(s.Z3=4∨s.Z3=5):=by grind [gM,gX]);have Zad:=w o (by omega);refine⟨⟨?_,?_,?_,?_,?_⟩,by grind,by grind⟩;{intro h l f;have⟨s,a,_,i⟩:=b h l;rw[lZ a]at f ⊢;have I:=i.resolve_right (λe=>by rw[e]at f;cases f);exact(mJ N a I).1};{grind};{grind};{unfold iQ List.Nodup;rw[List.pairwise_filterMap];refine(sA d.ZZ T).imp_of_mem ?_;grind [lZ,za5]};{(intro F h O e f x p B;have l:h∈ae d.ZZ T:=by grind);(have⟨s,a,y,i⟩:=b h l;rw[lZ a]at f p;have g:s.Z3=3:=by grind);(rw[dR];intro A;have n:x∈cU d.ZZ T:=by unfold cU;grind [iQ]);rcases V.st h s a (by omega) x p with c | ⟨-,c⟩;{exact V.cv x c (zf N V n)};{(have⟨k,u,K,j,v,S,L⟩:=c (by omega);have M:=Bj V K j a (by rw[g];rfl) L y;have E:az u=x:=(by rwa [(mJ N j v).2.1]);have D:=gL.2 ⟨u,j,M,VR ⟨v,by rw[E];exact qL.2 (VH ⟨h,s,a,g,y,p⟩)⟩⟩;have C:=sA d.ZZ T;rw[e]at D C;have q:k∈F:=by rcases VG.1 D with z | z;{exact z};{rcases Wa.1 z with z | z;{omega};{have:=(Y7.1 (Yt.1 C).2.1).1 k z;omega}});rw[dR]at B;apply B;unfold iQ;rw[WV];exact⟨k,q,by rw[lZ j,v,VI (by decide),E]⟩}}
end
def nA(us:Vs)(sbs:Vq->Vs)(x:Vq):Vs:=match aU us x with
 | none=>[x]
 | some _=>sbs x
theorem oc(h:v∉M):nA M z7 v=[v]:=by grind [nA,dR]
theorem uf(h:v∈M):nA M z7 v=z7 v:=by grind [nA,aU,dR]
theorem mW{α β:Type}{f g:α->List β}{l:List α}(h:∀x∈l,f x=g x):l.flatMap f=l.flatMap g:=by induction l with|nil=>rfl|cons x r a=>grind
theorem wT:tk z2 (z2.map s) f=nA z2 s f:=by grind [tk,nA,aU,lP,GZ]
theorem uR(b:Vs):∀a,(a++b.flatMap (tk q z4)).length<=32->iq q z4 b a=a++b.flatMap (tk q z4):=by induction b with|nil=>grind [iq]|cons x r c=>grind [iq]
theorem UF(h:(L.flatMap (nA z2 s)).length<=32):iY z2 (z2.map s) L=L.flatMap (nA z2 s):=by grind [tk,nA,mW,wT,iY,uR]
def mX(l:List Q)(us:Vs)(sbs:Vq->Vs)(h:Nat):Vs:=if((l.getD h bu).Z3==3)=true then(l.getD h bu).ZI.flatMap (nA us sbs) else bH (l.getD h bu) :: sbs (az (l.getD h bu))
theorem xX:Ej L L=true:=by grind [Ej]
theorem PI(H:HyO b t):∀(c a:Vu),t=a++c->(∀h∈c,((b.getD h bu).Z3==3)=true->(mX b (iQ b t) s h).length<=32) ->
  gP b c (c.map (mX b (iQ b t) s)) (iQ b a,(iQ b a).map s)=(0,(iQ b t,(iQ b t).map s)):=by intro c;induction c with|nil=>intro a e _;rw[e,WH];rfl|cons h c p=>(intro a e g;have i:h∈t:=by grind);(have l:t=(a++[h])++c:=by grind);(have f:j6 (b.getD h bu) (mX b (iQ b t) s h) (iQ b a,(iQ b a).map s)=(0,(iQ b (a++[h]),(iQ b (a++[h])).map s)):=by unfold j6 mX;cases j:((b.getD h bu).Z3==3);{grind [iQ,az,bu,lY]};{(rw[VQ rfl,VQ rfl];have m:iQ b (a++[h])=iQ b a:=by grind [lY,iQ]);(have n:(b.getD h bu).ZI.flatMap (tk (iQ b a) ((iQ b a).map s))=(b.getD h bu).ZI.flatMap (nA (iQ b t) s):=by refine mW (λx k=>?_);rw[wT];by_cases d:x∈iQ b a;{grind [uf,lY]};{rw[oc d,oc];have q:=H.pre a h c e j x k (dR.2 d);grind [lY,dR]});(have o:iY (iQ b a) ((iQ b a).map s) (b.getD h bu).ZI=(b.getD h bu).ZI.flatMap (nA (iQ b t) s):=by grind [mX,iY,uR]);grind [xX]});grind [gP]
theorem Ev(A:Mb k T)(a:Vq->Vs){vs:Vs}{ms:List Bool}(b:List Vs)(c:∀h∈ae k T,((k.getD h bu).Z3==3)=true->(mX k (cU k T) a h).length<=32)(e:iC k T (cU k T,(cU k T).map a) vs ms=true) :
  eH k T vs ms (b++(ae k T).map (mX k (cU k T) a))=(0,iY (cU k T) ((cU k T).map a) (k.getD T bu).ZI):=by (unfold eH;have d:(b++(ae k T).map (mX k (cU k T) a)).length=b.length+(ae k T).length:=by simp);rw[VI (by omega),d,show b.length+(ae k T).length-(ae k T).length=b.length by omega,X9];have:=PI k a (ae k T) A.hy (ae k T) [] rfl c;rw[show(iQ k [],(iQ k []).map a)=(([],[]):OG) from rfl]at this;rw[this];unfold ni;grind
theorem RP.trans(d:RP k z6 T I)(e:RP k z6 I c):RP k z6 T c:=λP b a=>e P (d P b a) a
theorem RP.self:RP k z6 T T:=λ_ h _=>h
end Go.Proofs.YtnbalopedcgpcaaGreat
