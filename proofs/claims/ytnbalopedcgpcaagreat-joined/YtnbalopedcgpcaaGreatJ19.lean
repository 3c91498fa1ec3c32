import Derived.Test.YtnbalopedcgpcaaGreatJ07
import Derived.Test.YtnbalopedcgpcaaGreatJ09
import Derived.Test.YtnbalopedcgpcaaGreatJ17
namespace Go.Proofs.YtnbalopedcgpcaaGreat
open Go.RowKit Tryz
open Value IntKind Ending
set_option linter.all false
set_option maxHeartbeats 0
variable{T M t:Nat}{k:List St}{D z4:St}{H:Db}{z8:iW}{v:Vq}{u:Db->Prop}{L:Vs}{zc:Vq->Vs}{z9:List Rw}(n b:List St)(p:Vs)(z6:List Bool)(z7:List Vs)(z5:Vs)(g:Vq)(m:Vq->Vs)(f:Vq)(o:Nat)(N:St)(c:Pl)(x:Fs)(w:Nat)(s:Vu)(I:Vs)(z0:UInt8)
def vW(R:List St)(a:Nat)(vs:Vs)(k i j:Nat):Bool:=(List.range k).any (λn=>kV R a n&&(aQ vs (symsAt R n)).contains i&&(aQ vs (symsAt R n)).contains j)
theorem It(a:Vu)(b:List Bool)(q:Nat)(d:q<b.length):(kH o w a b).getD q false=(b.getD q false||a.any (λc=>w*o+c==q)):=by unfold kH;induction a generalizing b with|nil=>simp|cons m a e=>grind
theorem Is(r:Vu)(a:List Bool)(q:Nat)(d:q<a.length):(r.foldl (λa b=>kH w b s a) a).getD q false=(a.getD q false||r.any (λb=>s.any (λc=>b*w+c==q))):=by induction r generalizing a with|nil=>simp|cons m r e=>grind [kH,qZ,It]
theorem zg6{a b:Nat}(e:b<T)(f:t<T)(h:a*T+b=M*T+t):a=M/\b=t:=by (have c:(a*T+b) / T=a:=by rw[YQ,Zc (by omega)];simp_all);(have d:(M*T+t) / T=M:=by rw[YQ,Zc (by omega)];simp_all);grind
theorem Pj(k i j:Nat)(e:i<I.length)(f:j<I.length):(cO b w I k).getD (i*I.length+j) false=vW b w I k i j:=by have q:=DN e f;induction k with|zero=>grind [vW,cO]|succ k m=>(have d:vW b w I (k+1) i j=(vW b w I k i j||(kV b w k&&(aQ I (symsAt b k)).contains i&&(aQ I (symsAt b k)).contains j)):=by grind [vW]);rw[d,cO];cases o:kV b w k;{grind};{simp only[if_true,Bool.true_and];unfold lT;rw[Is _ _ _ _ _ (by grind [km]),m];congr 1;rw[Xc];simp only[List.any_eq_true,Bool.and_eq_true,List.contains_iff_mem,beq_iff_eq];constructor;{rintro ⟨r,n,s,c,p⟩;obtain⟨l,a⟩:=Wa c;have g:=pT I (symsAt b k) l a.1;grind [zg6]};grind}
theorem wG(i j:Nat)(a:i<I.length)(c:j<I.length):dS I.length (bT b w I) i j=(!(i==j)&&vW b w I b.length i j):=by grind [dS,bT,Pj]
theorem lq{α:Type}(l:Vu)(f g:Nat->List α)(h:∀x∈l,f x=g x):l.flatMap f=l.flatMap g:=by induction l with|nil=>rfl|cons a l b=>grind
def nS(l N:List St)(a:Nat):Vs:=((List.range N.length).filter (λj=>og (l++N) a (l.length+j))).flatMap (symsAt N)
def Un(vs:Vs)(A:Nat->Nat->Bool):List Pr:=(List.range vs.length).flatMap (λi=>((List.range vs.length).filter (λj=>decide (i<j)&&A i j)).map (λj=>(gD vs i,gD vs j)))
theorem zeM:AL I (bT b w I)=Un I (λi j=>!(i==j)&&vW b w I b.length i j):=by unfold AL sQ Un lV;refine lq _ _ _ (λi a=>?_);have a:=VH.1 a;congr 1;exact Xt (by grind [wG])
def CB(p:Pl):Prop:=(-1000000000<=p.ZN/\p.ZN<=1000000000)/\gR p
structure Gd(d:Db)(m:Nat):Prop where
 bnd:nz d m
 now:lj d.Zx<=m/\∀x∈d.Zx,CB x.2
 ZD:∀s∈d.ZD,0<s.Zm.length/\s.Zm.length<=m/\s.Zx.length<=m/\lj s.Zx<=m/\(∀x∈s.Zx,CB x.2)/\CB s.ZK
theorem Md(l:List (Vq×Pl))(x:Vq×Pl):lj (l++[x])=lj l+x.1.size:=by simp[lj]
theorem Ap(h:D∈dy k T):∃a∈k,D.Zm=a.Zm/\D.Zx=a.Zx/\D.ZK=a.ZK:=by grind [dy,gX,fP]
theorem Gd.take(h:Gd H T)(x:Vq)(p:Pl)(n:Nat)(w:x.size<=n)(u:1<=n)(l:CB p):Gd (aV H x p).2 (T+n):=by have v:=h.bnd.Zx;have m:=h.bnd.Zo;refine⟨((h.bnd.take x p).mono (m':=T+n) (by omega)),?_,?_⟩;{rcases Mr H x p with e | e | e;{rw[e];exact⟨by have:=h.now.1;omega,h.now.2⟩};{grind [lj]};{rw[e];refine⟨by rw[Md];have:=h.now.1;grind,λy c=>?_⟩;rcases VJ.1 c with c | c;{exact h.now.2 y c};{rwa [VI.1 c]}}};{rcases rJ H x p with e | ⟨y,_,e⟩ | ⟨e,b⟩;{rw[e];intro s a;have⟨f,g,i,j,k⟩:=h.ZD s a;grind};{rw[e];intro s a;have⟨o,d,q,r,t⟩:=Ap a;have⟨f,g,i,j,k⟩:=h.ZD o d;grind};{rw[e];intro s a;rcases VJ.1 a with a | a;{have⟨f,g,i,j,k⟩:=h.ZD s a;grind};{rw[VI.1 a];exact⟨b,by grind,by grind,by have:=h.now.1;grind,h.now.2,l⟩}}}
theorem Gd.empty:Gd bN 0:=⟨nz.empty,by simp[bN,lj],by simp[bN]⟩
theorem Bc(b:w<=f.size):(bC f w).1.text.size<=(bC f w).2-w/\(bC f w).1.pos<=f.size:=by have a:=lH f w b;unfold bC;simp only;split;{exact⟨by simp[ByteArray.size],(js f (skip f w) a.2).2⟩};{split;{exact⟨by simp[ByteArray.size],by grind⟩};{refine⟨?_,by grind⟩;simp only[ByteArray.size_extract];omega}}
theorem zw(k:Nat)(b:k<=f.size):(bz f k).1.pos<=f.size:=by unfold bz;generalize f.size-k+1=a;induction a generalizing k with|zero=>simp[ck,b]|succ a c=>grind [Bc,gE,ck,bC]
theorem Lq(k:Nat)(b:k<=f.size):(aN (aA f k).1=true->(aA f k).1.text.size<=(aA f k).2-k)/\(aA f k).1.pos<=f.size:=by unfold aA;generalize f.size-k+1=a;induction a generalizing k with|zero=>grind [cZ,aN]|succ a c=>grind [Bc,gE,cZ,fZ,bC,zw]
theorem RI(c:w<=1024):CB (il g f w):=by have a:=RK f w;have b:=yN f w;unfold CB gR il;grind
def zaL(fs:Fs)(bg:List Bool)(m:Nat)(r:Red):Prop :=
 r.2.1.length=4/\fR fs r.2.1<=fR fs bg/\∃m',Gd r.2.2 m'/\m'+fR fs r.2.1<=m+fR fs bg
theorem OD(b:∀j,j<x.length->(aC x j).size<=1024)(a:Nat):(aC x a).size<=1024:=by rcases Yd a x.length with h | h;{grind};{(have:(aC x a).size=0:=by unfold aC;rw[Vy,Xv h];rfl);omega}
theorem Qw(l:∀j,j<x.length->(aC x j).size<=1024)(f:Nat)(q:∀j b d m,b.length=4->Gd d m->zaL x b m (dz x f j b d))(a k:Nat)(b:List Bool)(d:Db)(m:Nat)(o:k<=(aC x a).size)(i:b.length=4)(g:Gd d m)(p:aN (aA (aC x a) k).1=true) :
  zaL x b (m+((aA (aC x a) k).2-k)) (iC x f a k b d).1/\(aA (aC x a) k).2<=(iC x f a k b d).2/\(iC x f a k b d).2<=(aC x a).size:=by have n:=fG (aC x a) k o;have r:=n.2.2 p;have s:=Lq (aC x a) k o;have c:=OD x l a;unfold iC kt;split;{unfold qt;split;{exact⟨⟨i,Vw _,m,g,by simp only;omega⟩,Vw _,n.2.1⟩};{next j y t => have e:=q j b d m i g;refine⟨⟨e.1,e.2.1,?_⟩,?_⟩;{have⟨u,v,w⟩:=e.2.2;grind};grind [KO,fG,aC,aA]}};{refine⟨⟨i,Vw _,m+((aA (aC x a) k).2-k),g.take _ _ _ (s.1 p) (by omega) (RI _ _ _ (by omega)),by simp⟩,Vw _,n.2.1⟩}
theorem Nk(n:∀j,j<x.length->(aC x j).size<=1024)(f:Nat):(∀b k a d m,k<=(aC x b).size->a.length=4->Gd d m->(cE x f b k a d).2.1.length=4/\fR x (cE x f b k a d).2.1<=fR x a/\∃c,Gd (cE x f b k a d).2.2 c/\c+fR x (cE x f b k a d).2.1<=m+((aC x b).size-k)+fR x a) /\
  (∀j a d m,a.length=4->Gd d m->zaL x a m (dz x f j a d)):=by
 have i:∀f,(∀b k a d m,k<=(aC x b).size->a.length=4->Gd d m->(cE x f b k a d).2.1.length=4/\fR x (cE x f b k a d).2.1<=fR x a/\∃c,Gd (cE x f b k a d).2.2 c/\c+fR x (cE x f b k a d).2.1<=m+((aC x b).size-k)+fR x a) ->
   (∀j a d m,a.length=4->Gd d m->zaL x a m (dz x f j a d)):=by
  intro f h j a d m g e;unfold dz;split
  ·exact⟨g,Vw _,m,e,Vw _⟩
  ·next y =>
   have l:a.getD j true=false:=(by grind);have z:=Ao x a j g l;have:=h j 0 (a.set j true) d m (Wp _) (by grind) e;refine⟨this.1,by omega,?_⟩
   grind
 induction f with
 | zero =>
  (grind [aC,cE,fR])
 | succ f r =>
  (have w:∀b k a d m,k<=(aC x b).size->a.length=4->Gd d m->(cE x (f+1) b k a d).2.1.length=4/\fR x (cE x (f+1) b k a d).2.1<=fR x a/\∃c,Gd (cE x (f+1) b k a d).2.2 c/\c+fR x (cE x (f+1) b k a d).2.1<=m+((aC x b).size-k)+fR x a:=by intro b k a d m p g e;cases q:aN (aA (aC x b) k).1 with|true=>{have B:=fG (aC x b) k p;have⟨⟨t,G,s,u,H⟩,I,v⟩:=Qw x n f r.2 b k a d m p g e q;cases o:((iC x f b k a d).1.1.1==0) with|true=>rw[Nl x f b k a d q o];have⟨C,D,A,E,F⟩:=r.1 b (iC x f b k a d).2 (iC x f b k a d).1.2.1 (iC x f b k a d).1.2.2 s v t u;grind|false=>grind [yI]}|false=>by_cases o:(aA (aC x b) k).1.ZK=true/\eH d=false;{grind [EI]};grind [zT]);(grind)
def zdd(l:List St):Prop:=∀s∈l,gR s.ZK/\∀x∈s.Zx,gR x.2
structure Rb(l:List St):Prop where
 ok:dM l
 prf:∀i (hi:i<l.length),lJ l[i]
 lns:zdd l
theorem I2(c:∀j,j<x.length->(aC x j).size<=1024)(k:Nat):Rb (eq x k).2.2.ZD:=by (have⟨_,_,m,a,o⟩:=(Nk x c 5000).2 k JT bN 0 rfl Gd.empty;have l:=yQ x c JT;have g:m<=4104:=by omega);have n:=a.bnd.ZD;unfold eq;refine⟨⟨by omega,λi b=>?_,λi b=>?_,λi b=>?_⟩,λi b=>⟨?_,?_⟩,?_⟩;{exact(a.ZD _ (by simp)).1};{have:=(a.ZD _ (VR b)).2.1;omega};{have:=(a.ZD _ (VR b)).2.2.1;omega};{have:=(a.ZD _ (VR b)).2.2.2.1;omega};{exact λe d=>((a.ZD _ (by simp)).2.2.2.2.1 e d).1};{exact λs f=>⟨(a.ZD s f).2.2.2.2.2.2,λe d=>((a.ZD s f).2.2.2.2.1 e d).2⟩}
theorem lG(a:w<4)(d:(aC x w).size<=1024)(b:Rd (aC x w)) :
  eq x w=(zN (cK x w) (aC x w) (dH (cK x w) (aC x w) 0 bN).1,JT.set w true,(dH (cK x w) (aC x w) 0 bN).2):=by
 unfold eq dz;have c:JT.getD w true=false:=by
  match w,a with
  | 0,_=>rfl
  | 1,_=>rfl
  | 2,_=>rfl
  | 3,_=>rfl
 (grind [SE])
theorem jg(a:f.size<=1024)(b:dU f=false):Rb (bn f).2.ZD:=by
 have h:=I2 [(⟨#[109]⟩,f)] (λj c=>by
  have:j=0:=by grind
  subst this;exact a) 0
 rw[lG [(⟨#[109]⟩,f)] 0 (by omega) a (vC f b)]at h;exact h
theorem oL(h:w<=n.length):cL (n++b) o w=cL n o w:=by grind [cL]
theorem qU(h:w<=o):cL b o w=false:=by grind [cL]
theorem nL(k:Nat)(p q:Nat->Bool)(h:∀n,n<w->p n=q n)(b:∀n,w<=n->p n=false):(List.range (w+k)).filter p=(List.range w).filter q:=by induction k with|zero=>exact Xt (by grind)|succ k a=>rw[<-XR,Wi,Wf,a];grind
theorem zO{α:Type}(l:Vu)(p q:Nat->Option α)(h:∀x∈l,p x=q x):l.filterMap p=l.filterMap q:=by induction l with|nil=>rfl|cons x r a=>grind
theorem zG{α:Type}(k:Nat)(p q:Nat->Option α)(h:∀n,n<w->p n=q n)(b:∀n,w<=n->p n=none):(List.range (w+k)).filterMap p=(List.range w).filterMap q:=by induction k with|zero=>grind [zO]|succ k a=>rw[<-XR,Wi,XK,a];grind
theorem OE(p q:Nat->Bool)(h:∀n,n<o->p n=q n)(a:∀n,o<=n->p n=false):(List.range (o+w)).find? p=(List.range o).find? q:=by rw[<-List.head?_filter,<-List.head?_filter,nL o w p q h a]
theorem zI(h:w<=n.length):eA (n++b) f w=eA n f w:=by grind [eA,OE,kI,oL,qU]
theorem xi(h:w<n.length):symsAt (n++b) w=symsAt n w:=by grind [symsAt]
theorem JB(h:w<n.length):cy (n++b) w=cy n w:=by unfold cy fX;rw[Vz,nL n.length b.length (og (n++b) w) (og n w),xi n b w h];{congr 1;rw[YA,YA];congr 1;refine WB (λx c=>xi n b x ?_);have:=(We.1 c).1;simpa using this};{intro d a;unfold og;rw[Wc a,oL n b d w (by omega)]};grind [og,qU]
theorem oQ(h:w<n.length):ae (n++b) w=ae n w:=by unfold ae eC;grind [JB,nL,fp,oL,qU]
theorem E7(h:w<n.length)(a:Vs)(k:Nat)(c:k<=n.length):cO (n++b) w a k=cO n w a k:=by induction k with|zero=>rfl|succ k d=>grind [kV,oL,cO,xi]
theorem tT(h:w<n.length)(a:Vs):bT (n++b) w a=bT n w a:=by unfold bT;rw[Vz];generalize b.length=k;induction k with|zero=>grind [E7]|succ k c=>grind [cO,kV,qU]
theorem zaW(h:w<n.length):iy (n++b) w=iy n w:=by grind [iy,sJ,zG,zp,oL,qU]
theorem Kc(h:w<n.length)(d:Pl)(c:List (Vq×Pl)):∀i a,cQ (n++b) w d i c a=cQ n w d i c a:=by induction c with|nil=>intro i a;rfl|cons x r e=>grind [cQ,zI]
theorem Pu(h:w<n.length)(d:Pl)(c:List (Vq×Pl)):∀a,dB (n++b) w d c a=dB n w d c a:=by induction c with|nil=>intro a;rfl|cons x r e=>grind [dB,zI]
theorem Us(h:w<n.length)(s:St):cM (n++b) w s=cM n w s:=by grind [cM,jE,qJ,Pu,oQ,Kc]
theorem oK(h:w<n.length):(n++b).getD w aX=n.getD w aX:=by grind
theorem G3(c:Vu)(h:∀x∈c,x<n.length):∀a S,jY (n++b) c a S=jY n c a S:=by induction c with|nil=>grind [jY]|cons x r d=>{intro a S;cases a with|nil=>rfl|cons e a=>grind [jY,oK]}
theorem O5(h:w<n.length)(S:Rg)(c:Vs)(a:List Bool):keepF (n++b) w S c a=keepF n w S c a:=by grind [keepF,nR,tT]
theorem J8(h:w<n.length)(d:Vs)(a:List Bool)(c:List Vs):gx (n++b) w d a c=gx n w d a c:=by unfold gx pG;grind [oQ,oK,G3,zW,O5]
theorem DI(a:List Vs)(s:fy)(h:(s.ZG==3)=false->s.Zn<n.length):fS (n++b) p z6 z7 a s=fS n p z6 z7 a s:=by grind [fS,dK,J8,oQ,oK]
theorem Fn(a:List fy)(h:∀s∈a,(s.ZG==3)=false->s.Zn<n.length) :
  ∀S,dP (n++b) p z6 c I a S=dP n p z6 c I a S:=by induction a with|nil=>intro S;rfl|cons s r d=>grind [jG,DI,dP]
theorem KY(d:dM n)(a:w<n.length)(c:lJ n[w])(L:List Rw):cY (n++b) w n[w] L=cY n w n[w] L:=by unfold cY dO;rw[Us n b w a,zaW n b w a,tT n b w a,Fn n b _ _ _ _ _ (AJ n w d a c).named]
theorem TN(d:dM n)(c:w<n.length)(a:lJ n[w])(L:List Rw):ik (n++b) w L=ik n w L:=by grind [ik,KY]
theorem FK(f:dM n)(a:∀i (c:i<n.length),lJ n[i])(k:Nat)(d:k<=n.length):aR (n++b) k=aR n k:=by induction k with|zero=>rfl|succ k e=>grind [aR,TN]
def jS(l:List St):List Rw:=(aR l l.length).filter (λr=>!(r.Zs==0))
theorem Qh(f:dM n)(a:∀i (c:i<n.length),lJ n[i]):∃t,jS (n++b)=jS n++t:=by (have h:∀k,∃t,aR (n++b) (n.length+k)=aR n n.length++t:=by intro k;induction k with|zero=>exact⟨[],by grind [FK]⟩|succ k e=>grind [aR]);obtain⟨t,d⟩:=h b.length;refine⟨t.filter (λr=>!(r.Zs==0)),?_⟩;grind [jS]
theorem Ip:gR cD:=by unfold gR cD;simp
theorem mY:gR cV.2:=by unfold gR cV;simp
theorem zeq{p:Pl}(h:gR p)(c:Int):gR { p with ZN:=c }:=h
theorem zbY(e:gR c)(d:List (Vq×Pl))(f:∀x∈d,gR x.2):∀a,(∀s∈a,gR s.at_)->(∀s∈(dB b o c d a).1,gR s.at_)/\gR (dB b o c d a).2.2:=by induction d with|nil=>grind [dB,mY]|cons x r g=>grind [gR,dB]
theorem Ry(e:gR c)(a:List (Vq×Pl))(f:∀x∈a,gR x.2):∀i d,gR (cQ b o c i a d).1.2.2:=by induction a with|nil=>intro i d;exact e|cons x r g=>grind [cQ,mY]
def xo(c:iW):Prop:=∀s∈c.steps,gR s.at_
theorem J7(h:xo z8)(s:fy)(b:gR s.at_):∀x∈z8.steps++[s],gR x.at_:=by intro x a;rcases VJ.1 a with a | a;{exact h x a};{rwa [VI.1 a]}
theorem zeo(h:xo z8)(n:Nat)(p:Pl)(a:gR p):xo (bE z8 n p).2:=by unfold bE;split;{unfold fK;split;{exact J7 h _ a};{split;{exact J7 h _ a};{exact h}}};{split;{unfold io;split <;> exact h};{split;{exact h};{split;{exact J7 h _ a};{exact h}}}}
theorem zcY(d:gR c)(b:Nat):∀j a,xo a->xo (eY f c b j a).2/\gR (eY f c b j a).1.2:=by induction b with|zero=>intro j a h;exact⟨h,mY⟩|succ b e=>grind [eY,zeo,zeq,mY]
theorem zai(a:List (Vq×Pl))(d:∀x∈a,gR x.2):∀c,xo c->xo (kR a c).2/\gR (kR a c).1.2:=by induction a with|nil=>intro c h;exact⟨h,mY⟩|cons x r e=>intro c h;have⟨t,p⟩:=x;have b:=zcY t p (d (t,p) (by simp)) (t.size+1) 0 c h;rw[kR];split;{exact e (by grind) _ b.1};{exact b}
theorem zeL(d:gR N.ZK)(e:∀x∈N.Zx,gR x.2):(∀x∈(cM b o N).1,gR x.at_)/\gR (cM b o N).2.2:=by unfold cM;split;{(unfold jE;have c:xo (qJ b o N).2/\gR (qJ b o N).1.2:=by unfold qJ IL;split;{exact zai _ (by grind) _ (by intro x a;cases a)};{exact⟨(by intro x a;cases a),Ry b o N.ZK d _ (by grind) ..⟩});unfold qg;split;{split;{split;{grind};{exact⟨c.1,mY⟩}};grind};grind};grind [zbY]
theorem zcf(e:gR c)(d:Vs)(a:List fy)(h:∀x∈a,gR x.at_):∀S,gR (dP b p z6 c d a S).2:=by induction a with|nil=>intro S;rw[dP];unfold Tj;split;{exact e};{split;{exact mY};{exact e}};{exact e}|cons s r f=>grind [dP]
theorem Tg(L:List Rw)(d:gR N.ZK)(g:∀x∈N.Zx,gR x.2):gR (cY b o N L).at_:=by (have c:=zeL b o N d g;unfold cY;have a:gR (if(qz (cM b o N).1).isNone=true/\((cM b o N).2.1==0)=true then dO b o N (cM b o N).1 else(cM b o N).2).2:=by split;{exact zcf _ _ _ _ d _ _ c.1 _};{exact c.2});generalize (if(qz (cM b o N).1).isNone=true/\((cM b o N).2.1==0)=true then dO b o N (cM b o N).1 else(cM b o N).2)=f at *;unfold i9;split;{split;{next u i => show gR (((cM b o N).1[u]?).map fy.at_ |>.getD cD);cases e:(cM b o N).1[u]? with|none=>exact Ip|some x=>exact c.1 x (by grind)};{split <;> exact Ip}};{exact a}
theorem zgb(h:zdd b)(k:Nat):∀r∈aR b k,gR r.at_:=by induction k with|zero=>intro r a;cases a|succ k d=>{intro r a;rw[aR]at a;rcases VJ.1 a with a | a;{exact d r a};{rw[VI.1 a];unfold ik;split;{next s e => have c:=h s (by grind);split;{exact Ip};{split;{exact Tg b k s _ c.1 c.2};{exact Ip}}};{exact Ip}}}
theorem Rb.rows(h:Rb k):Gl (jS k):=by refine⟨?_,λr b=>zgb k h.lns _ r (We.1 b).1⟩;have a:=Xw (λr:Rw=>!(r.Zs==0)) (aR k k.length);rw[lx]at a;have:=h.ok.len;unfold jS;omega
def bi(T:Vq):List Rw:=jS (bn T).2.ZD
theorem Qj(a:dp g):∃m,bi (g++⟨#[10]⟩++f)=bi g++m:=by have⟨m,c⟩:=Ts g f a;have b:=jg g a.size a.inc;unfold bi;rw[c];exact Qh _ m b.ok b.prf
def zj(l:List St)(vs:Vs)(ms:List Bool)(A:List fy)(S S':List Vs×List Vs):Prop:=∀ZK goal B,dP l vs ms ZK goal (A++B) S=dP l vs ms ZK goal B S'
section
variable {l:List St} {vs:Vs} {ms:List Bool} {A B:List fy} {S S1 S2:List Vs×List Vs}
theorem zj.nil:zj l vs ms [] S S:=λ_ _ _=>rfl
theorem zj.app(h:zj l vs ms A S S1)(g:zj l vs ms B S1 S2):zj l vs ms (A++B) S S2:=λc a b=>by rw[Ws,h,g]
theorem zj.one{s:fy}{e:Vs}{a:List Vs}(h:fS l vs ms S.1 S.2 s=((0,e),a))(d:e.length<=32):zj l vs ms [s] S (S.1++[e],a++[e]):=λc b B=>by
 show dP l vs ms c b (s :: B) S=_;have f:jG l vs ms S s=(0,S.1++[e],a++[e]):=by
  unfold jG;rw[h];simp only[beq_self_eq_true,if_true];rw[VK d]
 rw[dP,f];simp
end
section
variable {tx:Vs} {Ps:List dV} {C:or}
theorem oZ{α β:Type}{f:α->β}{A:List α}{x y:List β}(h:A.map f=x++y):∃a b,A=a++b/\a.map f=x/\b.map f=y:=by have⟨a,b,c,d,e⟩:=List.map_eq_append_iff.1 h;grind
structure zgO(rh0:Vq->Vq)(P zzQ:dV):Prop where
 code:zzQ.code=P.code
 types:zzQ.types=P.types
 len:zzQ.body.length=P.body.length
 pos:∀(k:Nat) (x y:Vq),P.body[k]?=some x->zzQ.body[k]?=some y->aG zzQ.vars y=aG P.vars x/\(aG P.vars x=none->y=rh0 x)
end
structure zgN(π:Pl->Pl):Prop where
 none:π cD=cD
 ZN:∀p c,π { p with ZN:=c }={ π p with ZN:=c }
 same:∀p,(π p).ZN=p.ZN
def qD(d:Db):Prop:=d.ZG=0->d.Zx=[]
theorem Iy(h:qD H)(x:Vq)(p:Pl):qD (aV H x p).2:=by (have b:∀d:Db,d.Zx=H.Zx->(d.ZG=0->H.ZG=0)->qD d:=λd f g c=>by rw[f];exact h (g c));unfold aV;split;{next c => (have a:H.ZG=0:=by simpa using c);unfold aL;split;{exact b _ rfl (λ_=>a)};{split;{split;{exact h};{unfold fE;split <;> exact b _ rfl (λ_=>a)}};{split;{split;{exact h};{exact b _ rfl (λ_=>a)}};{split;{exact b _ rfl (λ_=>a)};{split;{exact b _ rfl (λ_=>a)};{split;{exact h};{unfold bQ;(repeat' split);all_goals first | exact h | exact b _ rfl (λ_=>a)}}}}}}};{next a => split;{unfold bj;(repeat' split);all_goals first | exact h | exact λc=>by simp at c};{split;{unfold lN;split;{exact h};{split;{exact h};{exact λ_=>rfl}}};{split;{unfold cI;split;{exact h};{exact b _ rfl (λc=>c)}};{split;{exact h};{split;{intro c;have e:H.ZG=0:=c;rw[e]at a;simp at a};{split;{exact b _ rfl (λc=>c)};{exact h}}}}}}}
structure PlP(P:Pl->Prop):Prop where
 none:P cD
 ZN:∀p c,P p->P { p with ZN:=c }
structure zgs(n:Vq)(d:Db):Prop where
 now:∀x∈d.Zx,x.2.ZL=n
 ZD:∀s∈d.ZD,s.ZK.ZL=n/\∀x∈s.Zx,x.2.ZL=n
theorem Fe:qD bN:=λ_=>rfl
theorem Ix(a:Nat):∀k d,qD d->qD (dC g f a k d).2:=by induction a with|zero=>intro k d h;exact h|succ a b=>grind [dC,Iy]
theorem dp.left(h:dp v):eH (bn v).2=false/\(bn v).2.Zx=[]/\qD (bn v).2:=by have a:qD (bn v).2:=Ix ⟨#[109]⟩ v _ 0 bN Fe;have b:eH (bn v).2=false:=(vM (ud v ⟨#[]⟩) ⟨#[109]⟩ 0 bN (Wp _) h.ok).1;refine⟨b,a ?_,a⟩;grind [eH]
structure zgP(T c V:Vq)(a':Nat):Prop where
 size:V.size=a'+c.size
 same:∀i,i<c.size->aB V (a'+i)=aB c i
theorem zv{b:Vq}(h:(v.toList==b.toList)=true):v=b:=by (have a:v.toList=b.toList:=by grind);apply Yk;apply Array.toList_inj.1;rwa [<-Wh,<-Wh]
theorem Wd.noDollar(h:Wd v):eX v=false:=by unfold eX;rw[Y0];intro i a;have:=(h.2 i (by grind)).2;grind
theorem Wd.notKey(h:Wd v)(c:UInt8):(v.toList == [36,c])=false:=by cases e:(v.toList == [36,c]);{rfl};{have⟨b,a,_⟩:=DQ v c e;exact absurd a (h.2 0 h.1).2}
theorem MI(k z:Nat)(a:k<=z)(d:z<=f.size)(c:∀i,k<=i->i<z->fq (aB f i)=true)(b:z=f.size∨de (aB f z)=true):bO f k=z:=by obtain⟨n,rfl⟩:∃n,z=k+n:=⟨z-k,by omega⟩;clear a;induction n generalizing k with|zero=>grind [kQ]|succ n e=>grind [de,aB,fq,yZ]
theorem zbW(b:o<w)(l:w<=f.size)(d:∀i,o<=i->i<w->fq (aB f i)=true)(a:w=f.size∨de (aB f w)=true)(j:((f.extract o w).toList == [36,40])=false) :
  aA f o=(⟨f.extract o w,0,false,o⟩,w):=by
 (have m:=d o (Vw _) b;have g:de (aB f o)=false:=by grind [fq,de]);have k:=na f o (λh=>by rw[g]at h;simp at h)
 have c:=DF f o o w k.symm (by rw[MI f o w (by omega) l d a];exact kQ f w (λh=>by
   rcases a with e | e
   ·have:=h.1;omega
   ·rw[e]at h;simp at h)) (λh=>by
   rcases a with e | e
   ·have:=h.1;omega
   ·rw[e]at h;simp at h) b
 rw[j9 f o (VO (c ▸ j)),c]
theorem Dm(b:w<f.size)(a:de (aB f w)=true):aA f w=aA f (w+1):=by grind [tW,bC,nW]
theorem OZ:aN ⟨f,0,false,w⟩=true:=by rfl
theorem zcm(a:dp g):bn (g++⟨#[10]⟩++f)=dH ⟨#[109]⟩ (g++⟨#[10]⟩++f) (g.size+1) (bn g).2/\eH (bn g).2=false:=by have h:=vM (ud g f) ⟨#[109]⟩ 0 bN (Wp _) a.ok;exact⟨h.2,h.1⟩
theorem zD(e:w+f.size<=g.size)(c:∀i,i<f.size->aB g (w+i)=aB f i):g.extract w (w+f.size)=f:=by apply XZ;{simp_all};{intro i d b;rw[Xu];have a:=c i b;rw[bA _ _ (by omega),bA _ _ b]at a;exact UInt8.toNat_inj.1 (by omega)}
theorem Py(h:eH H=false):H.ZG=0/\H.ZI=[]:=by simp[eH,Bool.or_eq_false_iff,bne_eq_false_iff_eq,decide_eq_false_iff_not]at h;grind
structure Wrd(x:Vq):Prop where
 pos:0<x.size
 pl:∀i,i<x.size->fq (aB x i)=true
 com:(x.toList == [36,40])=false
def dA:List (UInt8×Vq)->Vq
 | []=>⟨#[]⟩
 | (b,x) :: r=>⟨#[b]⟩++x++dA r
def yp:List (Vq×Pl)->Db->Option Db
 | [],d=>some d
 | (x,p) :: r,d=>if((aV d x p).1==0)=true then yp r (aV d x p).2 else none
def mE(n U:Vq):Nat->List (UInt8×Vq)->List (Vq×Pl)
 | _,[]=>[]
 | k,(_,x) :: r=>(x,il n U (k+1)) :: mE n U (k+1+x.size) r
theorem Ji(a b:List (Vq×Pl))(d:Db):yp (a++b) d=(yp a d).bind (yp b):=by induction a generalizing d with|nil=>rfl|cons y a c=>grind [yp]
theorem Cl(L:List (UInt8×Vq))(k:Nat):(mE g f k L).map (·.1)=L.map (·.2):=by induction L generalizing k with|nil=>rfl|cons y L a=>grind [mE]
theorem nil_append:f++⟨#[]⟩=f:=by apply Yk;simp
theorem PZ(L:List (UInt8×Vq))(u:∀y∈L,de (y.1.toNat:Int)=true/\Wrd y.2):∀(A:Vq) (d a:Db),yp (mE f (A++dA L) A.size L) d=some a->eH a=false->dH f (A++dA L) A.size d=((0,0),a):=by
 induction L with
 | nil =>
  (intro A d a n z;have e:d=a:=by grind [mE,yp]);subst e;have O:A++dA []=A:=nil_append A;(grind [aA,bC,j9,yV,aN,vL])
 | cons y L F =>
  (have⟨b,x⟩:=y;intro A d a n z;have⟨v,k⟩:=u (b,x) (by simp);simp only at v k;have G:(⟨#[b]⟩:Vq).size=1:=rfl;have m:A++dA ((b,x) :: L)=(A++⟨#[b]⟩++x)++dA L:=by simp[dA,ByteArray.append_assoc]);(have l:(A++⟨#[b]⟩++x).size=A.size+1+x.size:=by grind);(have p:(A++dA ((b,x) :: L)).size=A.size+1+x.size+(dA L).size:=by grind);(have B:aB (A++dA ((b,x) :: L)) A.size=(b.toNat:Int):=by rw[m,bV _ _ _ (by omega),bV _ _ _ (by grind)];have:=bJ A ⟨#[b]⟩ 0 (by omega);rw[WY]at this;rw[this];rfl);(have t:∀i,i<x.size->aB (A++dA ((b,x) :: L)) (A.size+1+i)=aB x i:=by intro i E;rw[m,bV _ _ _ (by omega)];have:=bJ (A++⟨#[b]⟩) x i E;rw[VP,G]at this;exact this);(have C:A.size+1+x.size=(A++dA ((b,x) :: L)).size∨de (aB (A++dA ((b,x) :: L)) (A.size+1+x.size))=true:=by cases L with|nil=>left;rw[p];rfl|cons H s=>have⟨c,r⟩:=H;right;(have D:=(u (c,r) (by simp)).1;have I:aB (A++dA ((b,x) :: (c,r) :: s)) (A.size+1+x.size)=(c.toNat:Int):=by rw[m];have:=bJ (A++⟨#[b]⟩++x) (dA ((c,r) :: s)) 0 (by simp[dA,ByteArray.size_append];have:(⟨#[c]⟩:Vq).size=1:=rfl;omega);rw[WY,l]at this;rw[this];rfl);grind)
  have g:=zD (A++dA ((b,x) :: L)) x (A.size+1) (by omega) t;have w:=zbW (A++dA ((b,x) :: L)) (A.size+1) (A.size+1+x.size) (by have:=k.pos;omega) (by omega)
   (λi M N=>by rw[show i=A.size+1+(i-(A.size+1)) by omega,t _ (by omega)];exact k.pl _ (by omega)) C (by rw[g];exact k.com)
  rw[g]at w;have j:=Dm (A++dA ((b,x) :: L)) A.size (by omega) (B ▸ v);rw[w]at j;simp only[mE,yp]at n;split at n;{next K => (have q:aN (aA (A++dA ((b,x) :: L)) A.size).1=true:=(by grind [OZ]);rw[yU f _ A.size d (by omega) q (by grind),j];simp only;have o:yp (mE f ((A++⟨#[b]⟩++x)++dA L) (A++⟨#[b]⟩++x).size L) (aV d x (il f (A++dA ((b,x) :: L)) (A.size+1))).2=some a:=by grind);have:=F (by grind) (A++⟨#[b]⟩++x) _ a o z;grind};(grind)
theorem P0(i:dp f)(b:UInt8)(x:Vq)(L:List (UInt8×Vq))(j:b=10)(g:∀y∈(b,x) :: L,de (y.1.toNat:Int)=true/\Wrd y.2)(a:Db)(m:yp (mE ⟨#[109]⟩ (f++dA ((b,x) :: L)) f.size ((b,x) :: L)) (bn f).2=some a)(l:eH a=false):bn (f++dA ((b,x) :: L))=((0,0),a):=by (subst j;have e:f++dA ((10,x) :: L)=f++⟨#[10]⟩++(x++dA L):=by simp[dA,ByteArray.append_assoc]);(have d:=(zcm f (x++dA L) i).1;rw[<-e]at d;rw[d];have k:aB (f++dA ((10,x) :: L)) f.size=10:=by rw[e];exact(ud f _).lf);(have c:f.size<(f++dA ((10,x) :: L)).size:=by rw[e];exact(ud f _).lt);rw[<-uf ⟨#[109]⟩ _ f.size (f.size+1) (bn f).2 (by omega) (by omega) (Dm (f++dA ((10,x) :: L)) f.size c (by simp_all))];exact PZ ⟨#[109]⟩ ((10,x) :: L) g f (bn f).2 a m l
def bI(ws:Vs)(d:Db)(R:Db->Prop):Prop:=∀l:List (Vq×Pl),l.map (·.1)=ws->∃d',yp l d=some d'/\R d'
theorem bI.nil(h:u H):bI [] H u:=by (intro l a;have:l=[]:=by simp_all);subst this;exact⟨H,rfl,h⟩
theorem bI.mono{b:Db->Prop}(h:bI L H u)(f:∀a,u a->b a):bI L H b:=by intro l c;have⟨a,d,e⟩:=h l c;grind
theorem bI.append{a:Vs}{R:Db->Prop}(h:bI a H R)(g:∀b,R b->bI L b u):bI (a++L) H u:=by (intro l c;have e:l=l.take a.length++l.drop a.length:=by simp);(have d:(l.take a.length).map (·.1)=a:=by rw[Yl,c];simp);(have f:(l.drop a.length).map (·.1)=L:=by rw[List.map_drop,c];simp);have⟨b,k,i⟩:=h _ d;have⟨j,m,n⟩:=g b i _ f;grind [Ji]
theorem bI.one(h:∀p,(aV H v p).1=0/\u (aV H v p).2):bI [v] H u:=by
 intro l a
 match l,a with
 | [(y,p)],a =>
  (have:y=v:=by grind);subst this;refine⟨_,?_,(h p).2⟩;(grind [yp])
theorem bI.cons{R:Db->Prop}(h:∀p,(aV H v p).1=0/\R (aV H v p).2)(c:∀b,R b->bI L b u):bI (v :: L) H u:=bI.append (a:=[v]) (bI.one h) c
def kw(c:UInt8):Vq:=⟨#[36,c]⟩
theorem kG:(kw z0).toList=[36,z0]:=by simp[kw]
theorem zel(h:33<=z0.toNat/\z0.toNat<=126)(a:z0≠40):Wrd (kw z0):=by
 refine⟨by show 0<2;omega,?_,?_⟩
 ·intro i b;have a:i<2:=b
  match i,a with
  | 0,_=>rfl
  | 1,_ =>
   have:aB (kw z0) 1=(z0.toNat:Int):=rfl;(grind [fq])
 (grind [kG])
theorem Wd.wrd(h:Wd v):Wrd v:=⟨h.1,λi a=>(h.2 i a).1,h.notKey 40⟩
structure qC(d:Db):Prop where
 ZG:d.ZG=0
 syms:d.Zm=[]
 prf:d.Zq=false
 pr:d.Zx=[]
theorem zeU(h:qC H)(b:H.ZI=[])(p:Pl):aV H (kw 99) p=(0,{ H with ZG:=7 }):=by unfold aV;rw[VK (by rw[h.ZG];rfl)];grind [aL,kG]
theorem zeW(h:qC H)(p:Pl):aV H (kw 118) p=(0,{ H with ZG:=8 }):=by unfold aV;rw[VK (by rw[h.ZG];rfl)];grind [aL,kG]
theorem zeV(h:qC H)(p:Pl):aV H (kw 100) p=(0,{ H with ZG:=1 }):=by unfold aV;rw[VK (by rw[h.ZG];rfl)];grind [aL,kG]
theorem QB(h:qC H)(p:Pl):aV H (kw 123) p=(0,{ H with ZI:=H.ZI++[(H.Zv.length,H.Zy.length)],rbl:=H.rbl++[H.ZD.length] }):=by unfold aV;rw[VK (by rw[h.ZG];rfl)];grind [aL,kG]
theorem Mq(h:qC H)(q:Nat×Nat)(a:H.ZI.getLast?=some q)(p:Pl):aV H (kw 125) p=(0,fE H q):=by unfold aV;rw[VK (by rw[h.ZG];rfl)];grind [aL,kG]
theorem Bu(h:qC H)(x:Vq)(a:Wd x)(b:dZ x=true)(c:dq H x=false)(p:Pl):aV H x p=(0,{ H with Zu:=H.Zu++[x],ZH:=x,ZG:=6 }):=by unfold aV;rw[VK (by rw[h.ZG];rfl)];unfold aL;simp[a.notKey,Bool.false_eq_true,if_false,or_self];unfold bQ;simp[a.noDollar,b,c]
theorem zcL{d:Db}(h:d.ZG=6)(c:UInt8)(k:Int)(b:(c=102/\k=2)∨(c=101/\k=3)∨(c=97/\k=4))(p:Pl):aV d (kw c) p=(0,{ d with ZG:=k }):=by grind [aV,bj,kG]
theorem JD{d:Db}(c:d.ZG≠0)(e:d.ZG≠6)(g:d.Zq=false)(x:Vq)(a:Wd x)(f:aP d x=0)(p:Pl):aV d x p=(0,{ d with Zm:=d.Zm++[x] }):=by unfold aV;rw[VL (by grind),VL (by grind),VL (by rw[a.notKey];simp),VL (by rintro ⟨h,-⟩;rw[a.notKey]at h;cases h),VL (by rw[a.noDollar];simp),VL (by grind),VK (by grind)]
theorem Bt{d:Db}(b:d.ZG≠0)(e:d.ZG≠6)(c:d.ZG≠5)(f:fM d<=d.Zm.length)(p:Pl):aV d (kw 46) p=(0,{ cJ d p with ZG:=0,ZH:=⟨#[]⟩,Zm:=[],Zq:=false,Zx:=[] }):=by grind [aV,kG,lN]
theorem Bd(a:Vs):∀(d:Db),d.ZG≠0->d.ZG≠6->d.Zq=false->(∀y∈a,Wd y)->(∀(c:Vs) y post,a=c++y :: post->aP { d with Zm:=d.Zm++c } y=0) ->
  bI a d (λf=>f={ d with Zm:=d.Zm++a }):=by induction a with|nil=>simp[bI.nil]|cons y a n=>intro d i j l m k;have b:=k [] y a rfl;simp[List.append_nil]at b;refine bI.cons (R:=λg=>g={ d with Zm:=d.Zm++[y] }) (λp=>by rw[JD i j l y (m y (by simp)) b p];simp) ?_;grind
theorem zf3(h:qC H)(n:H.ZI=[])(x:Vq)(i:Wd x)(g:dq H x=false):bI [kw 99,x,kw 46] H (λf=>f={ H with Zo:=H.Zo++[x],ZH:=⟨#[]⟩ }):=by refine bI.cons (R:=λa=>a={ H with ZG:=7 }) (by grind [zeU]) ?_;rintro a rfl;refine bI.cons (R:=λa=>a={ H with ZG:=7,Zm:=[x] }) (λp=>?_) ?_;{rw[JD (d:={ H with ZG:=7 }) (by simp) (by simp) h.prf x i ?_ p];{exact⟨rfl,by simp[h.syms]⟩};{unfold aP;rw[VK (by rfl),VL];rintro (d | d);{have b:bu H.Zm x=true:=d;rw[h.syms]at b;simp[bu]at b};{exact Bool.noConfusion (g.symm.trans d)}}};{rintro a rfl;refine bI.one (λp=>?_);rw[Bt (d:={ H with ZG:=7,Zm:=[x] }) (by simp) (by simp) (by simp) (by simp[fM]) p];refine⟨rfl,?_⟩;have e:=h.ZG;have k:=h.syms;have l:=h.prf;have m:=h.pr;grind [cJ]}
theorem Ma(h:qC H)(a:Vq)(E:Wd a)(C:dZ a=true)(D:dq H a=false)(c:UInt8)(k:Int)(q:(c=102/\k=2)∨(c=101/\k=3)∨(c=97/\k=4))(f:Vs)(s:∀y∈f,Wd y)(m:1<=f.length)(A:k=2->f.length=2)(n:∀(b:Vs) y d,f=b++y :: d->aP { H with ZG:=k,Zm:=b } y=0) :
  bI (a :: kw c :: (f++[kw 46])) H (λl=>∃p,l={ H with Zu:=H.Zu++[a],Zy:=if k=2 then H.Zy++[f.getD 1 ⟨#[]⟩] else H.Zy,ZD:=H.ZD++[⟨k,a,f,[],p,0⟩],ZH:=⟨#[]⟩ }):=by (have r:k=2∨k=3∨k=4:=by omega);refine bI.cons (R:=λi=>i={ H with Zu:=H.Zu++[a],ZH:=a,ZG:=6 }) (by grind [Bu]) ?_;rintro i rfl;refine bI.cons (R:=λi=>i={ H with Zu:=H.Zu++[a],ZH:=a,ZG:=k }) (λp=>by rw[zcL (d:={ H with Zu:=H.Zu++[a],ZH:=a,ZG:=6 }) rfl c k q];simp) ?_;rintro i rfl;refine bI.append (R:=λi=>i={ H with Zu:=H.Zu++[a],ZH:=a,ZG:=k,Zm:=f }) ?_ ?_;{refine(Bd f { H with Zu:=H.Zu++[a],ZH:=a,ZG:=k } (by grind) (by grind) h.prf s ?_).mono ?_;{(intro b y d o;have B:=n b y d o;have e:aP { H with Zu:=H.Zu++[a],ZH:=a,ZG:=k,Zm:=H.Zm++b } y=aP { H with ZG:=k,Zm:=b } y:=by (rw[h.syms];unfold aP;have u:(k==7)=false:=by grind);have v:(k==8)=false:=(by grind);have t:(k==1)=false:=(by grind);simp[u,v,t,Bool.false_eq_true,if_false,List.nil_append];rfl);grind};{rintro l rfl;simp[h.syms]}};{rintro i rfl;refine bI.one (λp=>?_);rw[Bt (d:={ H with Zu:=H.Zu++[a],ZH:=a,ZG:=k,Zm:=f }) (by grind) (by grind) (by grind) ?_ p];{refine⟨rfl,p,?_⟩;have e:=h.ZG;have w:=h.syms;have x:=h.prf;have z:=h.pr;grind [cJ,eD,s8]};grind [fM]}
theorem Jj(h:qC H)(c:UInt8)(k:Int)(E:(c=118/\k=8)∨(c=100/\k=1))(d:Vs)(v:∀y∈d,Wd y)(r:1<=d.length)(C:k=1->2<=d.length)(q:d.Pairwise (λa b=>(a.toList==b.toList)=false))(t:∀y∈d,if k=8 then eP H y=false else bu H.Zv y=true) :
  bI (kw c :: (d++[kw 46])) H (λn=>∃p,n={ (if k=8 then fw { H with Zm:=d } d.length else { H with ZD:=H.ZD++[⟨1,H.ZH,d,[],p,0⟩] }) with ZG:=0,ZH:=⟨#[]⟩,Zm:=[],Zq:=false,Zx:=[] }):=by (have l:k=8∨k=1:=by omega);refine bI.cons (R:=λf=>f={ H with ZG:=k }) (λp=>?_) ?_;{grind [zeW,zeV]};rintro f rfl;refine bI.append (R:=λf=>f={ H with ZG:=k,Zm:=d }) ?_ ?_;{refine(Bd d { H with ZG:=k } (by grind) (by grind) h.prf v ?_).mono ?_;{(intro m y s D;have w:y∈d:=(by grind);have g:=t y w;have u:bu m y=false:=by grind [bu]);rw[h.syms];unfold aP;rcases l with rfl | rfl;{rw[VK rfl]at g;rw[VL (by simp),VK (by rfl),VL];rintro (o | o);{grind};{exact Bool.noConfusion (g.symm.trans o)}};grind [jl,bu]};{rintro n rfl;simp[h.syms]}};{rintro f rfl;refine bI.one (λp=>?_);rw[Bt (d:={ H with ZG:=k,Zm:=d }) (by grind) (by grind) (by grind) ?_ p];{refine⟨rfl,p,?_⟩;have e:=h.ZG;have z:=h.syms;have A:=h.prf;have B:=h.pr;grind [cJ,fw,eD,s8]};grind [fM]}
theorem UP(h:qC H):bI [kw 123] H (λa=>a={ H with ZI:=H.ZI++[(H.Zv.length,H.Zy.length)],rbl:=H.rbl++[H.ZD.length] }) :=
 bI.one (by grind [QB])
theorem Qm(h:qC H)(q:Nat×Nat)(b:H.ZI.getLast?=some q):bI [kw 125] H (λa=>a=fE H q) :=
 bI.one (by grind [Mq])
structure zgJ(s:Vq)(k z1 z2 z3:Nat)(nm:List UInt8):Prop where
 w1:aN (aA s k).1=true
 t1:((aA s k).1.text.toList == [36,91])=true
 e1:(aA s k).2=z1
 w2:aN (aA s z1).1=true
 t2:(aA s z1).1.text.toList=nm
 e2:(aA s z1).2=z2
 w3:aN (aA s z2).1=true
 t3:((aA s z2).1.text.toList == [36,93])=true
 e3:(aA s z2).2=z3
theorem zeJ(a:Vs)(x:Vq):aG a x=a.findIdx? (λy=>y.toList==x.toList):=by unfold aG;induction a with|nil=>rfl|cons y r b=>{rw[WR,List.range_succ_eq_map,List.find?_cons,List.findIdx?_cons];cases h:(y.toList==x.toList) with|true=>simp[h]|false=>simp[List.getD_cons_zero,h,List.find?_map,Bool.false_eq_true,if_false];rw[<-b];rfl}
theorem mg(h:aG L v=some T):T<L.length:=by have:=Wj h;grind
def oi(l:List St)(hs:Vu):Vs:=hs.filterMap (λh=>if((l.getD h aX).ZG==3)=true then none else some (ar (l.getD h aX)))
structure HyO(l:List St)(hs:Vu):Prop where
 two:∀h∈hs,((l.getD h aX).ZG==3)=false->(l.getD h aX).Zm=[aI (l.getD h aX),ar (l.getD h aX)]
 ess:∀h∈hs,(l.getD h aX).Zm≠[]
 tc:∀h∈hs,aG (oi l hs) (aI (l.getD h aX))=none
 uq:(oi l hs).Nodup
 pre:∀ah h bs,hs=ah++h :: bs->((l.getD h aX).ZG==3)=true->∀x∈(l.getD h aX).Zm,aG (oi l ah) x=none->aG (oi l bs) x=none
theorem yG(a:Vu):oi b (s++a)=oi b s++oi b a:=by grind [oi]
theorem dm:aG L v=none ↔ v∉L:=by grind [zeJ,fJ]
theorem zgp(b:Vs):∀a p,(p∈a∨∃x∈b,aG I x=some p)->p∈nE I b a:=by induction b with|nil=>{intro a p h;rcases h with h | ⟨x,c,-⟩;exact h;cases c}|cons y r d=>grind [nE,aG,kT]
abbrev dF (l:List St) (n:Nat):List ByteArray:=oi l (ae l n)
def InF(l:List St)(n:Nat)(x:Vq):Prop:=x∈(l.getD n aX).Zm∨∃h∈ae l n,x∈(l.getD h aX).Zm
structure AsO(l:List St)(n:Nat):Prop where
 hy:HyO l (ae l n)
 ne:(l.getD n aX).Zm≠[]
 tc:aG (dF l n) (aI (l.getD n aX))=none
theorem pz(c:L.Nodup){i:Nat}(d:i<L.length):aG L (L.getD i ⟨#[]⟩)=some i:=by (have b:L.getD i ⟨#[]⟩=L[i]:=by grind);cases g:aG L (L.getD i ⟨#[]⟩) with|none=>grind [dm]|some j=>have a:=mg g;have e:=XV g;have e:=fJ (Xl e);rw[b,Vy,Vv a]at e;have:=(List.getElem_inj c).1 (show L[j]=L[i] from e);rw[this]
theorem Cn{a:Vs}:T∈aQ L a ↔ ∃x∈a,aG L x=some T:=by grind [aQ]
section
variable {d:Db} {P:Vq->Prop}
theorem oM(a:k[T]?=some D):cL k T M=true ↔ T<M/\(D.til=0∨M<D.til):=by grind [cL]
theorem C3(V:Vr d)(a:T<M)(e:d.ZD[T]?=some D)(b:d.ZD[M]?=some z4)(i:iZ z4.ZG=false)(f:D.til=0∨M<D.til)(g:cL d.ZD M t=true):cL d.ZD T t=true:=by rw[oM b]at g;rw[oM e];refine⟨by omega,?_⟩;by_cases c:D.til=0;{omega};{have:=V.nest T M D z4 a e b i c (f.resolve_left c);omega}
theorem jn:M∈ae k T ↔ ∃s,k[M]?=some s/\cL k M T=true/\((s.ZG=2/\ar s∈cy k T)∨s.ZG=3):=by grind [ae,eC,fp,iU,gy]
theorem rI:v∈cy k T ↔ v∈symsAt k T∨∃(h:Nat) (s:St),k[h]?=some s/\s.ZG=3/\cL k h T=true/\v∈s.Zm:=by unfold cy fX;rw[VJ,Wk];refine or_congr Iff.rfl ⟨?_,?_⟩;{grind [og,symsAt]};{rintro ⟨h,s,c,b,a,d⟩;refine⟨h,?_,by grind [symsAt]⟩;grind [og]}
theorem sO(h:k[T]?=some D):k.getD T aX=D:=by grind
theorem uk(N:Nm P d)(g:d.ZD[T]?=some D)(b:D.ZG=2):D.Zm=[aI D,ar D]/\ar D=N8 D/\aI D∈d.Zo:=by
 have o:=N.ZD D (by grind);have a:=o.two b;have⟨c,r,e,f⟩:=o.code (by omega);obtain⟨v,rfl⟩:∃v,r=[v]:=by
  rw[e]at a
  match r,a with
  | [v],_=>simp
 (grind [aI,N8,ar,gy])
theorem E8:v∈dF k T ↔ ∃(n:Nat) (s:St),k[n]?=some s/\cL k n T=true/\s.ZG=2/\ar s=v/\v∈cy k T:=by unfold dF oi;rw[WO];constructor;{grind [jn,sO]};{rintro ⟨n,s,c,a,b,e,m⟩;refine⟨n,by grind [jn],?_⟩;grind}
theorem zfH(N:Nm P d)(V:Vr d)(p:dK d.ZD T=true)(a:InF d.ZD T v):v∈d.Zo∨v∈dF d.ZD T:=by (have c:∀{m:Nat} {s:St},d.ZD[m]?=some s->3<=s.ZG->v∈s.Zm->(m=T∨(iZ s.ZG=false/\cL d.ZD m T=true))->v∈cy d.ZD T->v∈d.Zo∨v∈dF d.ZD T:=by intro m s b g f q e;have n:=(N.ZD s (by grind)).ZG;rcases V.st m s b (by omega) v f with h | ⟨-,h⟩;{grind};{have⟨k,u,r,i,j,t,w⟩:=h (by omega);refine VO (E8.2 ⟨k,u,i,?_,j,?_,e⟩);{grind [oM,C3]};{rwa [(uk N i j).2.1]}});rcases a with a | ⟨h,l,a⟩;{grind [dK,sO,iZ,rI,symsAt]};{have⟨s,b,o,g⟩:=jn.1 l;rw[sO b]at a;rcases g with ⟨k,m⟩ | k;{grind [uk,E8]};{exact c b (by omega) a (VO ⟨by rw[k];rfl,o⟩) (by grind [rI])}}
theorem Rm:zp k T M=some v ↔ ∃s,k[M]?=some s/\s.ZG=2/\cL k M T=true/\ar s=v:=by grind [zp]
theorem Sr(N:Nm P d)(V:Vr d)(b:d.ZD[T]?=some D)(a:D.ZG=2):ar D∈d.Zp:=by rw[(uk N b a).2.1];exact V.fl T D b a
theorem Ar(N:Nm P d)(V:Vr d)(h:v∈dF d.ZD T):v∈d.Zp:=by grind [E8,Sr]
theorem zd4(N:Nm P d)(V:Vr d)(a:d.ZD[M]?=some D)(b:d.ZD[t]?=some z4)(f:D.ZG=2)(g:z4.ZG=2)(i:cL d.ZD M T=true)(j:cL d.ZD t T=true)(e:ar D=ar z4):M=t:=by rw[(uk N a f).2.1,(uk N b g).2.1]at e;rw[oM a]at i;rw[oM b]at j;rcases Y1 M t with c | c | c;{exact absurd e (V.ds M t D z4 a b f g c (by omega))};{exact c};{exact absurd e.symm (V.ds t M z4 D b a g f c (by omega))}
theorem tN:(ae b w).Pairwise (· < ·):=by unfold ae eC;exact List.pairwise_lt_range.filter _
theorem zm(N:Nm P d)(V:Vr d)(R:dK d.ZD T=true):AsO d.ZD T:=by (have w:∀{m:Nat} {s:St},d.ZD[m]?=some s->2<=s.ZG/\s.ZG<=5->s.Zm≠[]/\aG (dF d.ZD T) (aI s)=none:=by (intro m s a i;have⟨c,r,e,G⟩:=(N.ZD s (by grind)).code i;refine⟨by grind,?_⟩;have t:aI s=c:=by grind [aI]);rw[t,dm];intro A;exact V.cv c ((gy ..).1 G) (Ar N V A));(have b:∀h∈ae d.ZD T,∃s,d.ZD[h]?=some s/\cL d.ZD h T=true/\(s.ZG=2∨s.ZG=3):=by grind [jn]);(have⟨U,o,H⟩:∃s,d.ZD[T]?=some s/\(s.ZG=4∨s.ZG=5):=by grind [dK,iZ]);have ZP:=w o (by omega);refine⟨⟨?_,?_,?_,?_,?_⟩,by grind,by grind⟩;{intro h l f;have⟨s,a,_,i⟩:=b h l;rw[sO a]at f ⊢;have I:=i.resolve_right (λe=>by rw[e]at f;cases f);exact(uk N a I).1};{grind};{grind};{unfold oi List.Nodup;rw[List.pairwise_filterMap];refine(tN d.ZD T).imp_of_mem ?_;grind [sO,zd4]};{(intro F h O e f x p B;have l:h∈ae d.ZD T:=by grind);(have⟨s,a,y,i⟩:=b h l;rw[sO a]at f p;have g:s.ZG=3:=by grind);(rw[dm];intro A;have n:x∈dF d.ZD T:=by unfold dF;grind [oi]);rcases V.st h s a (by omega) x p with c | ⟨-,c⟩;{exact V.cv x c (Ar N V n)};{(have⟨k,u,K,j,v,S,L⟩:=c (by omega);have M:=C3 V K j a (by rw[g];rfl) L y;have E:ar u=x:=(by rwa [(uk N j v).2.1]);have D:=jn.2 ⟨u,j,M,VS ⟨v,by rw[E];exact rI.2 (VO ⟨h,s,a,g,y,p⟩)⟩⟩;have C:=tN d.ZD T;rw[e]at D C;have q:k∈F:=by rcases VJ.1 D with z | z;{exact z};{rcases WC.1 z with z | z;{omega};{have:=(List.pairwise_cons.1 (List.pairwise_append.1 C).2.1).1 k z;omega}});rw[dm]at B;apply B;unfold oi;rw[WO];exact⟨k,q,by rw[sO j,v,VL (by decide),E]⟩}}
end
def sU(us:Vs)(sbs:Vq->Vs)(x:Vq):Vs:=match aG us x with
 | none=>[x]
 | some _=>sbs x
theorem Jx(h:v∉L):sU L zc v=[v]:=by grind [sU,dm]
theorem zcE(h:v∈L):sU L zc v=zc v:=by grind [sU,aG,dm]
theorem rZ{α β:Type}{f g:α->List β}{l:List α}(h:∀x∈l,f x=g x):l.flatMap f=l.flatMap g:=by induction l with|nil=>rfl|cons x r a=>grind
theorem yD:tI z5 (z5.map m) f=sU z5 m f:=by grind [tI,sU,aG,mg,kN]
theorem Dz(b:Vs):∀a,(a++b.flatMap (tI p z7)).length<=32->iJ p z7 b a=a++b.flatMap (tI p z7):=by induction b with|nil=>grind [iJ]|cons x r c=>grind [iJ]
theorem NM(h:(I.flatMap (sU z5 m)).length<=32):jR z5 (z5.map m) I=I.flatMap (sU z5 m):=by grind [tI,sU,rZ,yD,jR,Dz]
def yK(l:List St)(us:Vs)(sbs:Vq->Vs)(h:Nat):Vs:=if((l.getD h aX).ZG==3)=true then(l.getD h aX).Zm.flatMap (sU us sbs) else aI (l.getD h aX) :: sbs (ar (l.getD h aX))
theorem GQ:JV I I=true:=by grind [JV]
theorem Sn(H:HyO b s):∀(c a:Vu),s=a++c->(∀h∈c,((b.getD h aX).ZG==3)=true->(yK b (oi b s) m h).length<=32) ->
  jY b c (c.map (yK b (oi b s) m)) (oi b a,(oi b a).map m)=(0,(oi b s,(oi b s).map m)):=by intro c;induction c with|nil=>intro a e _;rw[e,Wr];rfl|cons h c r=>(intro a e g;have i:h∈s:=by grind);(have l:s=(a++[h])++c:=by grind);(have f:mA (b.getD h aX) (yK b (oi b s) m h) (oi b a,(oi b a).map m)=(0,(oi b (a++[h]),(oi b (a++[h])).map m)):=by unfold mA yK;cases j:((b.getD h aX).ZG==3);{grind [oi,ar,aX,yG]};{(rw[VK rfl,VK rfl];have n:oi b (a++[h])=oi b a:=by grind [yG,oi]);(have o:(b.getD h aX).Zm.flatMap (tI (oi b a) ((oi b a).map m))=(b.getD h aX).Zm.flatMap (sU (oi b s) m):=by refine rZ (λx k=>?_);rw[yD];by_cases d:x∈oi b a;{grind [zcE,yG]};{rw[Jx d,Jx];have q:=H.pre a h c e j x k (dm.2 d);grind [yG,dm]});(have p:jR (oi b a) ((oi b a).map m) (b.getD h aX).Zm=(b.getD h aX).Zm.flatMap (sU (oi b s) m):=by grind [yK,jR,Dz]);grind [GQ]});grind [jY]
theorem Gp(A:AsO k T)(a:Vq->Vs){vs:Vs}{ms:List Bool}(b:List Vs)(c:∀h∈ae k T,((k.getD h aX).ZG==3)=true->(yK k (dF k T) a h).length<=32)(e:keepF k T (dF k T,(dF k T).map a) vs ms=true) :
  gx k T vs ms (b++(ae k T).map (yK k (dF k T) a))=(0,jR (dF k T) ((dF k T).map a) (k.getD T aX).Zm):=by (unfold gx;have d:(b++(ae k T).map (yK k (dF k T) a)).length=b.length+(ae k T).length:=by simp);rw[VL (by omega),d,show b.length+(ae k T).length-(ae k T).length=b.length by omega,List.drop_left];have:=Sn k a (ae k T) A.hy (ae k T) [] rfl c;rw[show(oi k [],(oi k []).map a)=(([],[]):Rg) from rfl]at this;rw[this];unfold pG;grind
theorem RP.trans(c:RP k z9 T M)(d:RP k z9 M t):RP k z9 T t:=λP b a=>d P (c P b a) a
theorem RP.self:RP k z9 T T:=λ_ h _=>h
end Go.Proofs.YtnbalopedcgpcaaGreat
