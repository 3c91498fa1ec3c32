import Derived.Deep.RegionLaw
import Derived.Test.YtpddjjabfbfifaaGreatG16
namespace Go.Proofs.YtpddjjabfbfifaaGreat
open Go.RowKit Tryz
set_option maxRecDepth 100000
set_option maxHeartbeats 40000000
variable{l n:World}{b T f:Nat}{a:Fs}{S d:Hd}{z7:Bool}{D L N:Value}{v:List (jS×Hd)}{zt:Option Addr}{k:List ik}{o:List Bool}(g:List Tk)(I:List Sm)(M:List (jS×Hd))(i:Nat)(H:List ik)(x:List Bool)(y w:Nat)(y4:jS×Hd)
def PT(w:World)(v:Nat)(fs:Fs)(h:Hd)(n d:ByteArray)(p2 p3 p4:Value)(e:Ending)(w':World):Prop :=
 e=.returned (.int .i64 (fc fs n d).1)/\((fc fs n d).1=0->∃h',fB w' v (fc fs n d).2 h' false p2 p3 p4/\uX w w' v h h')/\((fc fs n d).1≠0->ab [] w w')
theorem fB.off(c:fB l b a S z7 D L N):fB (l.setCell ⟨b,1,none⟩ (.bool false)) b a S false D L N:=by
 have k:ab [b] l (l.setCell ⟨b,1,none⟩ (.bool false)):=(ab.refl _ _).setCell (Q0 (by simp)) _;exact⟨by rw[ah c.d];rfl,c.own.Vf (fun q f=>k.block q (c.own.lt f) (by simp;intro e;exact c.far (by rw[<-e];exact f))),c.far,c.le⟩
theorem uX.set(r:uX l n b S d)(i:Nat)(u:Value):uX l (n.setCell ⟨b,i,none⟩ u) b S d:=⟨r.kept.setCell (Q0 (by simp)) _,r.blk⟩
theorem fB.grown{c:Fs}(i:fB l b a S z7 D L N)(g:bt l n S d)(o:aw n d (cr c))(r:c.length<=4){m:Nat}(j:m=c.length):fB (n.setCell ⟨b,0,none⟩ (.slice d.ao m d.cap)) b c d z7 D L N:=by
 have p:=g.kept.get i.d (fun h=>i.far (aN h));have s:=ae i.d
 have f:d.blk≠some b:=by
  rcases g.blk with e | ⟨q,e,h⟩
  ·rw[e];exact i.far
  ·rw[e];intro x;cases x;omega
 have k:ab [b] n (n.setCell ⟨b,0,none⟩ (.slice d.ao m d.cap)):=(ab.refl _ _).setCell (Q0 (by simp)) _;subst j;exact⟨by rw[ah p];rfl,o.Vf (fun q h=>k.block q (o.lt h) (by simp;intro e;exact f (by rw[<-e];exact h))),f,r⟩
theorem fB.wrote(c:fB l b a S z7 D L N)(g:S.ao=some ⟨T,0,none⟩)(h:f<a.length)(n d:ByteArray):fB ((l.setCell ⟨T,f*2,none⟩ (.string n)).setCell ⟨T,f*2+1,none⟩ (.string d)).drew b (a.set f (n,d)) S z7 D L N:=by
 have k:S.blk=some T:=by unfold Hd.blk;rw[g];rfl
 have j:ab [T] l ((l.setCell ⟨T,f*2,none⟩ (.string n)).setCell ⟨T,f*2+1,none⟩ (.string d)).drew:=(((ab.refl _ _).setCell (Q0 (by simp)) _).setCell (Q0 (by simp)) _).drew
 have i:aw ((l.setCell ⟨T,f*2,none⟩ (.string n)).setCell ⟨T,f*2+1,none⟩ (.string d)) S (cr (a.set f (n,d))):=by
  have:=(c.own.putAt g (f*2) (.string n)).putAt g (f*2+1) (.string d)
  have e:(⟨(cr a).e,(cr a).size,(cr a).n,((cr a).xs.set (f*2) (.string n)).set (f*2+1) (.string d)⟩:dN)=cr (a.set f (n,d)):=by
   simp only[cr,Ru];rw[Gi a f n d h]
  rw[e]at this;exact this
 refine⟨?_,i.Va (ab.refl [] _).drew,c.far,by rw[Ru];exact c.le⟩;rw[Ru];exact j.get c.d (by simp;intro e;exact c.far (by rw[k,e]))
theorem Jk(b:Fs)(h:Hd)(N:Bool)(p2 Z U:Value)(n d:ByteArray)(r:World)(R:fB r w b h N p2 Z U)(hn:n.size<=1073741824)(hd:d.size<=4294967296) :
  Calls prog 15 #[.pointer (some ⟨w,0,none⟩),.string n,.string d] r fun e w'=>PT r w b h n d p2 Z U e w':=by
 have L:Hid (Calls prog 34 #[.string n,.string d] r fun e w'=>e=.returned (.int .i64 (cJ n d))/\w'=r):=BC n d r hn hd
 cases F:(cJ n d==0)
 ·have t:Hid (fc b n d=(cJ n d,b)):=by show _=_;unfold fc;rw[QV (by simpa using F)]
  have HR:=hI R;generalize cJ n d=c at *;go_enter func15,ntmps15;go_wp2_with (go_at_call 34;refine QT L.out ?_;rintro e E ⟨rfl,a⟩;rw[a];clear a);go_ret;exact⟨by rw[t.out];rfl,by rw[t.out];exact⟨(fun q=>by rw[show c=0 from q]at F;cases F),fun _=>ab.refl _ _⟩⟩
 ·have o:cJ n d=0:=by simpa using F
  rw[o]at L;obtain⟨W,J⟩:∃W,Hid (r.alloc (.cells #[.string n,.string d] 68)=W):=⟨_,rfl⟩
  have kW:ab [] r W:=by rw[<-J.out];exact(ab.refl [] _).alloc _
  have O:W.heap[r.heap.size]?=some (.cells #[.string n,.string d] 68 (0,0)):=by rw[<-J.out];exact QR _ _
  have f:=R.Va kW;have i:=hI f;have T:W.cell? ⟨w,0,none⟩=some (.slice h.ao b.length h.cap):=by rw[aa f.d];rfl
  have c1:W.cell? ⟨w,1,none⟩=some (.bool N):=by rw[aa f.d];rfl
  have f0:=am f.d 0;have f1:=am f.d 1;have z0:=ae f.d;have b0:W.cell? ⟨r.heap.size,0,none⟩=some (.string n):=by rw[aa O];rfl
  have b1:W.cell? ⟨r.heap.size,1,none⟩=some (.string d):=by rw[aa O];rfl
  have zb:=ae O;have z:=hI kW;have ad:=R.le;have l:=hI (mt b h.ao h.cap n W (by omega) f.own.srcFi);clear f R kW O F;obtain⟨m,B⟩:∃m,Hid (b.length=m):=⟨_,rfl⟩
  rw[B.out]at T l ad
  rcases pH n b with x | ⟨k,K,x⟩
  ·rw[x]at l
   by_cases hl:m=4
   ·have t:Hid (fc b n d=(1,b)):=by show _=_;unfold fc;rw[QS (by simpa using o),x,QS (by omega),QV (by rw[B.out];omega)]
    subst hl;clear x o;go_enter func15,ntmps15
    go_upto_region 5 with (go_at_call 34;refine QT L.out ?_;rintro e E ⟨rfl,a⟩;rw[a];clear a)
    rw[J.out];go_wp2_with (go_at_call 35;refine QT l.out ?_;rintro e E ⟨rfl,a⟩;rw[a];clear a);go_ret;exact⟨by rw[t.out];rfl,by rw[t.out];exact⟨(fun q=>by cases q),fun _=>z.out⟩⟩
   ·have t:Hid (fc b n d=(0,b++[(n,d)])):=by show _=_;unfold fc;rw[QS (by simpa using o),x,QS (by omega),QS (by rw[B.out];omega)]
    have ar:((m:Int)==4)=false:=by simp;omega
    have C:Hid ((cr b).n=m):=B.out;clear x o;obtain⟨i0,hi,Y,ac,af⟩:=Rd zX;have hD:Hid (fB (W.alloc (.cells #[.string n,.string d] 68)).drew w b h N p2 Z U):=i.out.Va ((ab.refl [] W).alloc _).drew
    have s2:Hid (∀j u,([.string n,.string d]:List Value)[j]?=some u->(W.alloc (.cells #[.string n,.string d] 68)).drew.cell? ((⟨W.heap.size,0,none⟩:Addr).add j)=some u):=by
     intro j u hj;rw[bL];have K:(W.alloc (.cells #[.string n,.string d] 68)).drew.heap[W.heap.size]?=some (.cells #[.string n,.string d] 68 (0,0)):=QR _ _;rw[aa K];simpa using hj
    have s3:Hid (∀u∈([.string n,.string d]:List Value),u.oneCell'=true):=by intro u hu;simp only[Ri,RN,SO]at hu;rcases hu with rfl | rfl <;> rfl
    have s4:Hid ((cr b).n+1<=maxLen):=by show _<=_;rw[C.out];unfold maxLen;omega
    have s5:Hid (((cr b).n+1)*32<=140737488355328):=by show _<=_;rw[C.out];omega
    go_enter func15,ntmps15
    go_upto_region 5 with (go_at_call 34;refine QT L.out ?_;rintro e E ⟨rfl,a⟩;rw[a];clear a)
    rw[J.out]
    go_upto_region 9 with (go_at_call 35;refine QT l.out ?_;rintro e E ⟨rfl,a⟩;rw[a];clear a)
    go_region_law (refine cd rfl (.tmp 41) (.tmp 43) 33 rfl i0 (.agg #[.string ⟨#[]⟩,.string ⟨#[]⟩]) 32 h (cr b) underlying33 hi Y ac af rfl (show 0<2 by omega) (by rw[C.out];simp[Act.eval]) hD.out.own ⟨W.heap.size,0,none⟩ 1 1 [.string n,.string d] (by simp[Act.eval]) rfl s2.out s3.out Rb s4.out s5.out ?_;intro Q p P H y M;have V:=(show Hid (bt W P h ⟨some ⟨Q,0,none⟩,p⟩) from(bt.Va ((ab.refl [] W).alloc _).drew).trans (bt.made y (by simpa using M)));have S:=V.out.kept.get i.out.d (fun hq=>i.out.far (aN hq));have e5:=am S 0;have e6:P.cell? ⟨w,0,none⟩=some (.slice h.ao m h.cap):=(by rw[aa S,<-B.out];rfl);have z5:=ae S)
    all_goals
     have I:aw P ⟨some ⟨Q,0,none⟩,p⟩ (cr (b++[(n,d)])):=by rw[<-wW];exact H
     have s:=hI (i.out.grown (m:=(cr b).n+1) V.out I (by simp;rw[B.out];omega) (by simp[cr]));obtain⟨X,D⟩:∃X,Hid (P.setCell ⟨w,0,none⟩ (.slice (some ⟨Q,0,none⟩) ((cr b).n+1) p)=X):=⟨_,rfl⟩
     have v:=(show Hid (uX r X w h ⟨some ⟨Q,0,none⟩,p⟩) by rw[<-D.out];exact((uX.of (bt.Va z.out)).trans (uX.of V.out)).set 0 _);rw[D.out]at s ⊢;have x1:=am s.out.d 1;have x2:X.cell? ⟨w,1,none⟩=some (.bool N):=by rw[aa s.out.d];rfl
     have x3:=ae s.out.d;clear H y M S e5 e6 z5 I T c1 f0 f1 D;go_wp2;go_ret;exact⟨by rw[t.out];rfl,by rw[t.out];exact⟨fun _=>⟨_,s.out.off,v.out.set 1 _⟩,fun q=>absurd rfl q⟩⟩
  ·have t:Hid (fc b n d=(0,b.set k (n,d))):=by show _=_;unfold fc;rw[QS (by simpa using o),x,QV (by omega),R9]
   rw[x]at l;obtain⟨g,A,ap,ai⟩:=qo i.out.own (show 0<b.length by omega);obtain⟨g',G,-,q0,q1⟩:=i.out.own.srcFi.2 k K;rw[A]at G
   cases G
   have s:=hI (i.out.wrote A K n d);have an:(k:Int)<(m:Int):=by rw[B.out]at K;omega
   have al:(0:Int)<=(k:Int):=by omega
   have ag:¬(k:Int)<0:=by omega
   have u0:W.frozen? ⟨g,k*2,none⟩=false/\W.frozen? ⟨g,k*2+1,none⟩=false:=by
    rcases i.out.own.ways with ⟨e,-,-⟩ | ⟨g2,ax,e1,G,-⟩
    ·rw[e]at A;cases A
    ·rw[A]at e1;cases e1
     exact⟨am G _,am G _⟩
   obtain⟨u0,u1⟩:=u0
   have v:Hid (uX r ((W.setCell ⟨g,k*2,none⟩ (.string n)).setCell ⟨g,k*2+1,none⟩ (.string d)).drew w h h):=by
    have hb:h.blk=some g:=by unfold Hd.blk;rw[A];rfl
    have:=z.out.mono (S':=w :: h.blk.toList) (by simp);exact⟨((this.setCell (Q0 (by rw[hb];simp)) _).setCell (Q0 (by rw[hb];simp)) _).drew,Q0 rfl⟩
   rw[A]at T l;clear x o;go_enter func15,ntmps15
   go_upto_region 5 with (go_at_call 34;refine QT L.out ?_;rintro e E ⟨rfl,a⟩;rw[a];clear a)
   rw[J.out]
   go_upto_region 10 with (go_at_call 35;refine QT l.out ?_;rintro e E ⟨rfl,a⟩;rw[a];clear a)
   go_region
   obtain⟨X,D⟩:∃X,Hid (((W.setCell ⟨g,k*2,none⟩ (.string n)).setCell ⟨g,k*2+1,none⟩ (.string d)).drew=X):=⟨_,rfl⟩
   rw[D.out]at s v ⊢;have x1:=am s.out.d 1;have x2:X.cell? ⟨w,1,none⟩=some (.bool N):=by rw[aa s.out.d];rfl
   have x3:=ae s.out.d;clear T c1 f0 f1 D q0 q1 u0 u1;go_wp2;go_ret;exact⟨by rw[t.out];rfl,by rw[t.out];exact⟨fun _=>⟨_,s.out.off,v.out.set 1 _⟩,fun q=>absurd rfl q⟩⟩
def NR(x:jS×Hd):List Value:=[.slice x.2.ao x.1.st.length x.2.cap,.int .i64 x.1.why,.string x.1.file,.int .i64 x.1.line,.int .i64 x.1.col]
theorem NS:(NR y4).length=5:=rfl
def fP(L:List (jS×Hd)):dN:=kT 122 5 NR L
def fM(L:List ik):dN:=kT 38 6 jJ L
structure Ol(w:World)(v b:Nat)(x0 x1:Value)(PS:List (jS×Hd))(aoP:Option Addr)(cP:Nat)(RS:List ik)(aoR:Option Addr)(cR:Nat):Prop where
 d:w.heap[v]?=some (.cells #[x0,x1,.pointer (some ⟨b,0,none⟩),.slice aoP PS.length cP,.slice aoR RS.length cR] 85 (0,0))
 p:cm w aoP 5 NR PS
 q:∀x∈PS,cm w x.2.ao 6 kU x.1.st
 r:cm w aoR 6 jJ RS
theorem Ol.Va{c:Option Addr}{g:Nat}(a:Ol l b T D L v zt f k c g)(e:ab [] l n):Ol n b T D L v zt f k c g :=
 ⟨e.get a.d (by simp),a.p.Va e,fun x h=>(a.q x h).Va e,a.r.Va e⟩
def ff(RS:List ik)(a:Nat):ik:=RS.getD a N7
theorem Ax(h:w<H.length):H[w]?=some (ff H w):=by
 unfold ff;rw[QP,QO h];rfl
def fR(RS:List ik)(a:Nat):Bool:=((ff RS a).Vb==4)||((ff RS a).Vb==5)
theorem JK(u q:Value)(x:List (jS×Hd))(l:Option Addr)(v:Nat)(a:List ik)(k:Option Addr)(p:Nat)(b:World)(h:Ol b i y u q x l v a k p)(s:w<a.length) :
  Calls prog 66 #[.pointer (some ⟨i,0,none⟩),.int .i64 w] b fun e z=>e=.returned (.bool (fR a w))/\z=b:=by
 obtain⟨g,rfl,C,c⟩:=h.r w _ (Ax a w s);have D:b.cell? ⟨g,w*6+1,none⟩=some (.int .i64 (ff a w).Vb):=c 1 _ rfl;have B:b.cell? ⟨i,4,none⟩=some (.slice (some ⟨g,0,none⟩) a.length p):=by rw[aa h.d];rfl
 have A:=ae h.d;have t:(w:Int)<(a.length:Int):=by omega
 have j:Hid (fR a w=(((ff a w).Vb==4)||((ff a w).Vb==5))):=rfl;generalize (ff a w).Vb=o at *;clear h c
 cases m:(o==4)
 ·cases n:(o==5)
  ·have f:Hid (fR a w=false):=by show _=_;rw[j.out,m,n];rfl
   go_enter func66,ntmps66;go_wp2;go_ret;exact⟨aD f.out.symm,rfl⟩
  ·have f:Hid (fR a w=true):=by show _=_;rw[j.out,m,n];rfl
   go_enter func66,ntmps66;go_wp2;go_ret;exact⟨aD f.out.symm,rfl⟩
 ·have f:Hid (fR a w=true):=by show _=_;rw[j.out,m];rfl
  go_enter func66,ntmps66;go_wp2;go_ret;exact⟨aD f.out.symm,rfl⟩
def lq(PS:List (jS×Hd))(t:Nat):jS×Hd:=PS.getD t (⟨[],0,⟨#[]⟩,0,0⟩,⟨none,0⟩)
theorem Aq(h:w<M.length):M[w]?=some (lq M w):=by
 unfold lq;rw[QP,QO h];rfl
def jp(PS:List (jS×Hd))(RS:List ik)(a k:Nat):Prop:=∀P:Nat->Prop,P a->(∀t k i:Nat,P t->fR RS t=true->i<(lq PS t).1.st.length->(bO (lq PS t).1.st i).ref=(k:Int)->P k)->P k
theorem jp.self:jp v k b b:=fun _ h _=>h
theorem jp.step{t:Nat}(h:jp v k b t)(c:fR k t=true)(e:f<(lq v t).1.st.length)(g:(bO (lq v t).1.st f).ref=(T:Int)):jp v k b T:=fun P d a=>a t T f (h P d a) c e g
def vx(PS:List (jS×Hd))(RS:List ik)(inn:List Bool)(t:Nat):Prop:=inn.getD t false=true->fR RS t=true->∀i,i<(lq PS t).1.st.length->∀k:Nat,(bO (lq PS t).1.st i).ref=(k:Int)->inn.getD k false=true
structure vB(PS:List (jS×Hd))(RS:List ik)(a:Nat)(inn:List Bool):Prop where
 len:inn.length=a+1
 self:inn.getD a false=true
 sub:∀k,inn.getD k false=true->jp PS RS a k
theorem zW(h:w<x.length):x[w]?=some (x.getD w false):=by
 rw[QP,QO h];rfl
theorem N9(h:x.getD w false=true):(x.set y true).getD w false=true:=by
 rw[QP]at h ⊢;rw[RT]
 by_cases e:y=w
 ·rw[QV e]
  split
  ·rfl
  ·next a=>rw[Rv (by omega)]at h;cases h
 ·rw[QS e];exact h
theorem GI(h:(x.set y true).getD w false=true):w=y∨x.getD w false=true:=by
 by_cases e:y=w
 ·exact Q0 e.symm
 ·right
  rw[QP,RT,QS e,<-QP]at h;exact h
theorem vB.set(h:vB v k b o)(a:jp v k b T):vB v k b (o.set T true) :=
 ⟨by rw[Ru];exact h.len,N9 o T b h.self,fun q c=>by
  rcases GI o T q c with e | e
  ·rw[e];exact a
  ·exact h.sub q e⟩
theorem vB.all(h:vB v k b o)(d:∀t,t<=b->vx v k o t)(a:Nat):o.getD a false=true ↔ jp v k b a:=by
 refine⟨h.sub a,fun f=>?_⟩;refine f (fun a=>o.getD a false=true) h.self (fun t a i c g j m=>?_)
 have l:t<=b:=by
  have n:=h.len
  by_cases e:t<o.length
  ·omega
  ·rw[QP,Rv (by omega)]at c;cases c
 exact d t l c g i j a m
def Qu(S:List Sm)(inn:List Bool)(t:Nat):Bool:=inn.getD t false&&((au S t).k.toList == [36,97])
def PV(S:List Sm)(RS:List ik)(inn:List Bool)(t:Nat):Bool:=inn.getD t false&&(((au S t).k.toList == [36,112]) && !fR RS t)
def MU(T:List Tk)(S:List Sm)(inn:List Bool)(n:Nat):List ByteArray:=((List.range n).filter (Qu S inn)).map (fun t=>bG T (au S t))
def DI(T:List Tk)(S:List Sm)(RS:List ik)(inn:List Bool)(n:Nat):List ByteArray:=((List.range n).filter (PV S RS inn)).map (fun t=>bG T (au S t))
theorem Ky:MU g I x (w+1)=MU g I x w++(if Qu I x w=true then [bG g (au I w)] else []):=by
 unfold MU;rw[gZ,Rx]
 split <;> rfl
theorem KG:DI g I H x (w+1)=DI g I H x w++(if PV I H x w=true then [bG g (au I w)] else []):=by
 unfold DI;rw[gZ,Rx]
 split <;> rfl
def OF(T:List Tk)(S:List Sm)(PS:List (jS×Hd))(RS:List ik)(a:Nat)(w:World)(e:Ending)(w':World):Prop :=
 ∃(inn:List Bool) (h1 h2:Hd),(∀k,inn.getD k false=true ↔ jp PS RS a k)/\e=.returned (.tuple #[.slice h1.ao (MU T S inn (a+1)).length h1.cap,.slice h2.ao (DI T S RS inn (a+1)).length h2.cap])/\gw w w' h1 (aB (MU T S inn (a+1)))/\gw w w' h2 (aB (DI T S RS inn (a+1)))
theorem gw.two{j:World}{f:Hd}{s c r:dN}(a:gw l n S s)(b:gw l n f r)(m:∀k,S.blk=some k->f.blk≠some k)(g:bt n j S d)(o:aw j d c):gw l j d c/\gw l j f r/\∀k,d.blk=some k->f.blk≠some k:=by
 have p:=a.grew g o;refine⟨p,⟨g.beside b.own (fun k h i=>m k i h),b.far,p.kept⟩,fun k h i=>?_⟩
 rcases g.blk with e | ⟨q,e,t⟩
 ·exact m k (by rw[<-e];exact h) i
 ·have:=b.own.lt i
  rw[h]at e
  cases e
  omega
theorem jy.out(h:jy l b o):b<l.heap.size:=ae h
theorem Gp(k:List UInt8)(h:(k == [36,97])=true):(k == [36,112])=false:=by
 have:=TQ h;rw[this];rfl
theorem CL(T:List Tk)(cb:Option Addr)(cT:Nat)(S:List Sm)(a2:Option Addr)(cS:Nat)(x0 x1:Value)(o:List (jS×Hd))(az:Option Addr)(cP:Nat)(u:List ik)(b0:Option Addr)(cR:Nat)(v:World)(hD:fz v y T cb cT S a2 cS)(hJ:Ol v i y x0 x1 o az cP u b0 cR)(d6:w<o.length)(d3:w<u.length)(dp:w<S.length)(ha:w<=10000)(hA:∀j,j<=w->(au S j).a<T.length)(b1:∀t,t<=w->(lq o t).1.st.length<=100000000/\∀l,l<(lq o t).1.st.length->(bO (lq o t).1.st l).ref<=(w:Int)) :
  Calls prog 67 #[.pointer (some ⟨i,0,none⟩),.int .i64 w] v fun e C=>OF T S o u w v e C:=by
 obtain⟨i1,c9,cB,cq,c2⟩:=Rd Lq;obtain⟨iS,b3,a6,bc,a7⟩:=Rd js;have m2:=fun v=>dB (P:=prog) v 134 4 i1 _ underlying134 c9 cB (w+1) 1 cq (by rw[c2];omega) (by omega)
 obtain⟨mc,cl⟩:∃mc,Hid (madeCells (Value.bool false).cells ((w+1)*1)=mc):=⟨_,rfl⟩
 have co:Hid (mc=((List.replicate (w+1) false).map Value.bool).toArray):=by show _=_;rw[<-cl.out,wD]
 rw[cl.out]at m2;have df:((w+1:Nat):Int)=(w:Int)+1:=by omega
 have m3:=m2 v;rw[df]at m3;obtain⟨W,HW⟩:∃W,Hid (v.alloc (.cells (mc.setIfInBounds w (.bool true)) 4)=W):=⟨_,rfl⟩
 have aT:jy (v.alloc (.cells mc 4)) v.heap.size (List.replicate (w+1) false):=by
  unfold jy;rw[co.out];exact QR _ _
 have ch:Hid (jy W v.heap.size ((List.replicate (w+1) false).set w true)):=by
  show jy _ _ _
  unfold jy;rw[<-HW.out,co.out];refine(QR _ _).trans ?_
  congr 2
  rw[Rt,Tm]
 have cy:Hid (ab [] v W):=by show ab [] v W;rw[<-HW.out];exact(ab.refl [] _).alloc _
 have bz:Hid (vB o u w ((List.replicate (w+1) false).set w true)):=by
  refine⟨by simp,by rw[QP,Uf (by simp)];rfl,fun k hk=>?_⟩
  rcases GI _ w k hk with e | e
  ·rw[e];exact jp.self
  ·rw[QP,Se]at e
   split at e <;> cases e
 have c0:(v.alloc (.cells mc 4)).cell? ⟨v.heap.size,w,none⟩=some (.bool false):=aT.cell w false (by rw[Se,QV (by omega)]);have f0:=am aT w;have z0:=ae aT;have d7:(w:Int)<(w:Int)+1:=by omega
 have HD:=hI hD;have HJ:=hI hJ;have HA:=hI hA;have ct:=hI b1;have b5:Hid (∀t,t<=w->∀wx,ab [] v wx->Calls prog 66 #[.pointer (some ⟨i,0,none⟩),.int .i64 t] wx fun e C=>e=.returned (.bool (fR u t))/\C=wx):=fun t ht wx kx=>JK i y t x0 x1 o az cP u b0 cR wx (hJ.Va kx) (by omega)
 clear hD hJ hA b1 aT m2;go_enter func67,ntmps67
 go_upto_region 3 with fail
 rw[HW.out];clear c0 f0 z0 m3;go_wp2;obtain⟨Q,cF⟩:∃Q,Hid ((List.replicate (w+1) false).set w true=Q):=⟨_,rfl⟩
 rw[cF.out]at ch bz
 go_loopg [7] (2*aQ Q+1) (fun g ag wr=>∃(b:Bool) (a:List Bool),ag=.bool b/\g=2*aQ a+(if b=true then 1 else 0)/\Hid (vB o u w a)/\Hid (b=false->∀t,t<=w->vx o u a t)/\Hid (jy wr v.heap.size a)/\Hid (ab [] v wr))
 case atStart=>exact⟨true,Q,rfl,rfl,bz,(fun h=>by cases h),ch,cy⟩
 case round =>
  obtain⟨b,a,rfl,hg,m,br,f,F⟩:=hrel
  cases b
  ·have cz:=hI (vB.all m.out (br.out rfl))
   have HL:=hI m.out.len;obtain⟨w1,bo⟩:∃w1,Hid (wr=w1):=⟨_,rfl⟩
   rw[bo.out];rw[bo.out]at f F;clear bo br hg;have bw:Hid (gw w1 w1 ⟨none,0⟩ (aB [])):=⟨QY _ _ _ _,(by intro k hk;cases hk),ab.refl _ _⟩;have cL:Hid (([]:List ByteArray)=MU T S a 0):=rfl;have c4:Hid (([]:List ByteArray)=DI T S u a 0):=rfl;go_wp2
   go_loopg [12,13,14] (w+1) (fun g ax bd tv wr=>∃(t:Nat) (V X:Hd) (A B:List ByteArray),t<=w+1/\g=w+1-t/\ax=.slice V.ao A.length V.cap/\bd=.slice X.ao B.length X.cap/\tv=.int .i64 t/\(A.length<=t/\B.length<=t)/\Hid (A=MU T S a t)/\Hid (B=DI T S u a t)/\Hid (gw w1 wr V (aB A))/\Hid (gw w1 wr X (aB B))/\Hid (∀k,V.blk=some k->X.blk≠some k))
   case atStart=>exact⟨0,⟨none,0⟩,⟨none,0⟩,[],[],by omega,rfl,rfl,rfl,rfl,⟨QQ _,QQ _⟩,cL,c4,bw,bw,(by intro k hk;cases hk)⟩
   case round =>
    obtain⟨t,V,X,A,B,ht,cA,rfl,rfl,rfl,⟨dv,dz⟩,bv,bl,a5,ca,Y⟩:=hrel
    by_cases ad:t<=w
    ·have bg:(t:Int)<=(w:Int):=by omega
     have Z:t<S.length:=by omega
     have bT:=hI (F.out.trans a5.out.kept)
     have b2:Hid (Calls prog 87 #[.pointer (some ⟨y,0,none⟩),.int .i64 t] wr fun e C=>e=.returned (.string (bG T (au S t)))/\ab [] wr C):=by
      have:=nP y t T cb cT S a2 cS wr (fz.Va HD.out bT.out) Z (by rw[bM S t Z];exact HA.out t ad);rw[bM S t Z]at this;exact this
     have J:Hid (∀C:World,ab [] w1 C->C.cell? ⟨v.heap.size,t,none⟩=some (.bool (a.getD t false))/\v.heap.size<C.heap.size/\C.cell? ⟨i,2,none⟩=some (.pointer (some ⟨y,0,none⟩))/\i<C.heap.size/\∃gs,a2=some ⟨gs,0,none⟩/\gs<C.heap.size/\C.cell? ⟨y,1,none⟩=some (.slice a2 S.length cS)/\y<C.heap.size/\C.cell? ⟨gs,t*4+3,none⟩=some (.string (au S t).k)):=fun C kw=>by
      have hs:=jy.kept f.out kw (by simp);have hd:=fz.Va HD.out (F.out.trans kw);have hj:=Ol.Va HJ.out (F.out.trans kw);obtain⟨-,s0,hb⟩:=hd.cells;obtain⟨gs,e3,a0,-,-,-,q3⟩:=hd.s.2 t S[t] (QO Z);rw[bM S t Z]at q3;exact⟨hs.cell t _ (zW a t (by rw[HL.out];omega)),hs.out,by rw[aa hj.d];rfl,ae hj.d,gs,e3,a0,s0,hb,q3⟩
     have z:=hI (b5.out t ad);have al:=hI (Ky T S a t);have O:=hI (KG T S u a t);rw[<-bv.out]at al;rw[<-bl.out]at O;have bs:Hid (Qu S a t=(a.getD t false&&((au S t).k.toList == [36,97]))):=rfl;have R:Hid (PV S u a t=(a.getD t false&&(((au S t).k.toList == [36,112]) && !fR u t))):=rfl;obtain⟨sd,ai⟩:∃sd,Hid (fR u t=sd):=⟨_,rfl⟩
     rw[ai.out]at z R;obtain⟨x,Hx⟩:∃x,Hid (bG T (au S t)=x):=⟨_,rfl⟩
     rw[Hx.out]at b2 al O;generalize (au S t).k=sk at *;generalize a.getD t false=ib at *;obtain⟨-,-,v2,b4,-⟩:=J.out wr a5.out.kept
     go_upto_region 23 with (go_at_call 87;refine QT b2.out ?_;rintro e w2 ⟨rfl,k2⟩)
     have af:=hI k2;clear k2 v2 b4;have bx:=hI (z.out w2 (bT.out.trans af.out))
     go_upto_region 24 with (go_at_call 66;refine QT bx.out ?_;rintro e w3 ⟨rfl,D⟩;rw[D];clear D)
     have K:=hI (a5.out.Va af.out);have U:=hI (ca.out.Va af.out);obtain⟨y0,y1,y2,y3,gs,rfl,a0,s0,db,q3⟩:=J.out w2 K.out.kept;have d2:(t:Int)<(S.length:Int):=by omega
     have cx:(t:Int)<(w:Int)+1:=by omega
     have cX:(0:Int)<=(t:Int):=by omega
     cases ib
     ·have L:Hid (A=MU T S a (t+1)):=by show _=_;rw[al.out,bs.out];simp
      have G:Hid (B=DI T S u a (t+1)):=by show _=_;rw[O.out,R.out];simp
      go_wp2
      go_roundg (w+1-(t+1))
      case measure=>omega
      case rel=>exact⟨t+1,V,X,A,B,by omega,rfl,rfl,rfl,by go_num,⟨by omega,by omega⟩,L,G,K,U,Y⟩
     ·cases a3:(sk.toList == [36,97])
      ·have L:Hid (A=MU T S a (t+1)):=by show _=_;rw[al.out,bs.out,a3];simp
       cases ap:(sk.toList == [36,112])
       ·have G:Hid (B=DI T S u a (t+1)):=by show _=_;rw[O.out,R.out,ap];simp
        go_wp2
        go_roundg (w+1-(t+1))
        case measure=>omega
        case rel=>exact⟨t+1,V,X,A,B,by omega,rfl,rfl,rfl,by go_num,⟨by omega,by omega⟩,L,G,K,U,Y⟩
       ·cases sd
        ·have G:Hid (B++[x]=DI T S u a (t+1)):=by show _=_;rw[O.out,R.out,ap];simp
         have a1:=U.out.own;have a4:(aB B).n<=900000000:=by show B.length<=_;omega
         go_wp2_with (at_builtin;refine bN _ rfl (.tmp 136) (.tmp 138) 61 rfl iS (.string ⟨#[]⟩) 16 X (aB B) [.string x] underlying61 b3 a6 bc a7 rfl Rb rfl a1 a4 (by omega) rfl rfl (by simp[Value.oneCell']) ?_;intro h5 w5 M ac;rw[dr]at M;have H:=hI (gw.two U.out K.out (fun k hk hq=>Y.out k hq hk) ac M);clear M ac)
         go_roundg (w+1-(t+1))
         case measure=>omega
         case rel=>exact⟨t+1,V,h5,A,B++[x],by omega,rfl,rfl,by simp[aB],by go_num,⟨by omega,by simp;omega⟩,L,G,H.out.2.1,H.out.1,(fun k hk hq=>H.out.2.2 k hq hk)⟩
        ·have G:Hid (B=DI T S u a (t+1)):=by show _=_;rw[O.out,R.out,ap];simp
         go_wp2
         go_roundg (w+1-(t+1))
         case measure=>omega
         case rel=>exact⟨t+1,V,X,A,B,by omega,rfl,rfl,rfl,by go_num,⟨by omega,by omega⟩,L,G,K,U,Y⟩
      ·have ap:=Gp _ a3
       have L:Hid (A++[x]=MU T S a (t+1)):=by show _=_;rw[al.out,bs.out,a3];simp
       have G:Hid (B=DI T S u a (t+1)):=by show _=_;rw[O.out,R.out,ap];simp
       have a1:=K.out.own;have a4:(aB A).n<=900000000:=by show A.length<=_;omega
       go_upto_region 26 with (at_builtin;refine bN _ rfl (.tmp 110) (.tmp 112) 61 rfl iS (.string ⟨#[]⟩) 16 V (aB A) [.string x] underlying61 b3 a6 bc a7 rfl Rb rfl a1 a4 (by omega) rfl rfl (by simp[Value.oneCell']) ?_;intro h5 w5 M ac;rw[dr]at M;have H:=hI (gw.two K.out U.out Y.out ac M);clear M ac)
       obtain⟨z0,z1,z2,z3,d4,ez,dl,z4,z5,z6⟩:=J.out w5 H.out.1.kept
       cases ez
       clear y0 y1 y2 y3 a0 s0 db q3 a1 a4;go_wp2
       go_roundg (w+1-(t+1))
       case measure=>omega
       case rel=>exact⟨t+1,h5,X,A++[x],B,by omega,rfl,by simp[aB],rfl,by go_num,⟨by simp;omega,by omega⟩,L,G,H.out.1,H.out.2.1,H.out.2.2⟩
    ·have et:t=w+1:=by omega
     subst et;have bg:¬(w:Int)+1<=(w:Int):=by omega
     go_wp2;go_ret2;exact⟨a,V,X,cz.out,by rw[<-bv.out,<-bl.out];rfl,by rw[<-bv.out];exact a5.out.base F.out,by rw[<-bl.out];exact ca.out.base F.out⟩
  ·obtain⟨c,Hc⟩:∃c,Hid (aQ a=c):=⟨_,rfl⟩
   rw[Hc.out]at hg;have hg:_=2*c+1:=hg;have cj:Hid (aQ a<=c):=by show _<=_;rw[Hc.out];omega
   clear br;go_wp2
   go_loopg [7,8] (w+1) (fun g2 ag tv wr=>∃(t:Nat) (b:Bool) (a:List Bool),t<=w+1/\g2=w+1-t/\ag=.bool b/\tv=.int .i64 t/\Hid (aQ a<=c/\(b=true->aQ a<c))/\Hid (b=false->∀E,E<t->vx o u a E)/\Hid (vB o u w a)/\Hid (jy wr v.heap.size a)/\Hid (ab [] v wr))
   case atStart=>exact⟨0,false,a,by omega,rfl,rfl,rfl,⟨cj.out,fun h=>by cases h⟩,(fun _ t ht=>absurd ht (TZ t)),m,f,F⟩
   case round =>
    clear cj m f F Hc;obtain⟨t,b,a,ht,cA,rfl,rfl,HC,HT,m,f,F⟩:=hrel
    by_cases ad:t<=w
    ·have bg:(t:Int)<=(w:Int):=by omega
     have z:=hI (b5.out t ad wr F.out);have y0:=jy.cell f.out t _ (zW a t (by rw[m.out.len];omega));have y1:=jy.out f.out;obtain⟨sd,ai⟩:∃sd,Hid (fR u t=sd):=⟨_,rfl⟩
     rw[ai.out]at z;obtain⟨ib,N⟩:∃ib,Hid (a.getD t false=ib):=⟨_,rfl⟩
     rw[N.out]at y0;have cX:(0:Int)<=(t:Int):=by omega
     have cx:(t:Int)<(w:Int)+1:=by omega
     have bk:Hid (vx o u a t->b=false->∀E,E<t+1->vx o u a E):=fun hc h E c3=>by
      by_cases e:E=t
      ·rw[e];exact hc
      ·exact HT.out h E (by omega)
     cases ib
     ·have HM:=hI (bk.out (fun h=>by rw[N.out]at h;cases h))
      go_wp2_with (go_at_call 66;refine QT z.out ?_;rintro e w3 ⟨rfl,D⟩;rw[D];clear D)
      go_roundg (w+1-(t+1))
      case measure=>omega
      case rel=>exact⟨t+1,b,a,by omega,rfl,rfl,by go_num,HC,HM,m,f,F⟩
     ·cases sd
      ·have HM:=hI (bk.out (fun _ h=>by rw[ai.out]at h;cases h))
       go_wp2_with (go_at_call 66;refine QT z.out ?_;rintro e w3 ⟨rfl,D⟩;rw[D];clear D)
       go_roundg (w+1-(t+1))
       case measure=>omega
       case rel=>exact⟨t+1,b,a,by omega,rfl,rfl,by go_num,HC,HM,m,f,F⟩
      ·have cE:=hI (m.out.sub t N.out)
       obtain⟨cf,aS⟩:=ct.out t ad;have aS:=hI aS;have d9:(t:Int)<(o.length:Int):=by omega
       have J:Hid (∀C:World,ab [] v C->∃gP,az=some ⟨gP,0,none⟩/\gP<C.heap.size/\C.cell? ⟨i,3,none⟩=some (.slice az o.length cP)/\i<C.heap.size/\C.cell? ⟨gP,t*5,none⟩=some (.slice (lq o t).2.ao (lq o t).1.st.length (lq o t).2.cap)/\cm C (lq o t).2.ao 6 kU (lq o t).1.st):=fun C kw=>by
        have hj:=Ol.Va HJ.out kw;obtain⟨gP,e,b6,cc⟩:=hj.p t _ (Aq o t (by omega));exact⟨gP,e,b6,by rw[aa hj.d];rfl,ae hj.d,cc 0 _ rfl,hj.q _ (R2 (Aq o t (by omega)))⟩
       have ba:Hid (∀a:List Bool,(∀l,l<(lq o t).1.st.length->∀k:Nat,(bO (lq o t).1.st l).ref=(k:Int)->a.getD k false=true)->vx o u a t):=fun _ h _ _=>h
       have be:Hid (∀l,l<(lq o t).1.st.length->∀k:Nat,(bO (lq o t).1.st l).ref=(k:Int)->jp o u w k):=fun l hi k he=>jp.step cE.out ai.out hi he
       have an:Hid (b=false->(∀E,E<t->vx o u a E)/\∀l,l<0->∀k:Nat,(bO (lq o t).1.st l).ref=(k:Int)->a.getD k false=true):=fun h=>⟨HT.out h,fun l hi=>by omega⟩
       obtain⟨I,c1⟩:∃I,Hid ((lq o t).1.st=I):=⟨_,rfl⟩
       obtain⟨hd,cu⟩:∃hd,Hid ((lq o t).2=hd):=⟨_,rfl⟩
       rw[c1.out]at J ba be an cf aS;rw[cu.out]at J;obtain⟨cH,dk⟩:=hd;simp only at J;go_wp2_with (go_at_call 66;refine QT z.out ?_;rintro e w3 ⟨rfl,D⟩;rw[D];clear D)
       go_loopg [7,10] I.length (fun g3 ag iv wr=>∃(l:Nat) (b:Bool) (a:List Bool),l<=I.length/\g3=I.length-l/\ag=.bool b/\iv=.int .i64 l/\Hid (aQ a<=c/\(b=true->aQ a<c))/\Hid (b=false->(∀E,E<t->vx o u a E)/\∀i',i'<l->∀k:Nat,(bO I i').ref=(k:Int)->a.getD k false=true)/\Hid (vB o u w a)/\Hid (jy wr v.heap.size a)/\Hid (ab [] v wr))
       case atStart=>exact⟨0,b,a,by omega,rfl,rfl,rfl,HC,an,m,f,F⟩
       case round =>
        clear HC an HT m f F bk y0 y1 N z;obtain⟨l,b,a,hi,d8,rfl,rfl,HC,HT,m,f,F⟩:=hrel;obtain⟨gP,rfl,b6,v3,b4,p0,bf⟩:=J.out wr F.out
        by_cases bp:l<I.length
        ·have d0:(l:Int)<(I.length:Int):=by omega
         obtain⟨gs,es,a0,cs⟩:=bf l _ (GM I l bp);replace es:cH=some ⟨gs,0,none⟩:=es;subst es;have s0:wr.cell? ⟨gs,l*6,none⟩=some (.int .i64 (bO I l).ref):=cs 0 _ rfl;have c6:=hI (aS.out l bp);have c8:=hI (be.out l bp)
         have ck:Hid (b=false->(∀k:Nat,(bO I l).ref=(k:Int)->a.getD k false=true)->(∀E,E<t->vx o u a E)/\∀i',i'<l+1->∀k:Nat,(bO I i').ref=(k:Int)->a.getD k false=true):=fun h hk=>⟨(HT.out h).1,fun i' ds k he=>by
          by_cases e:i'=l
          ·subst e;exact hk k he
          ·exact(HT.out h).2 i' (by omega) k he⟩
         generalize (bO I l).ref=r at *;clear cs bf;have d5:(0:Int)<=(l:Int):=by omega
         by_cases cV:(0:Int)<=r
         ·obtain⟨k,rfl⟩:=Int.eq_ofNat_of_zero_le cV
          have a3:k<=w:=by have:=c6.out;omega
          have d1:(k:Int)<(w:Int)+1:=by omega
          have y0:=jy.cell f.out k _ (zW a k (by rw[m.out.len];omega));have y1:=jy.out f.out;have cp:=hI (zW a k (by rw[m.out.len];omega));obtain⟨ib,N⟩:∃ib,Hid (a.getD k false=ib):=⟨_,rfl⟩
          rw[N.out]at y0 cp;have dt:(0:Int)<=(k:Int):=by omega
          cases ib
          ·have HU:=hI (lB a k cp.out)
           have ar:Hid (aQ (a.set k true)<c):=by
            have V:=HU.out;have X:=HC.out.1
            show _<_
            omega
           have c5:=hI (vB.set m.out (c8.out k rfl));obtain⟨W3,bj⟩:∃W3,Hid (wr.setCell ⟨v.heap.size,k,none⟩ (.bool true)=W3):=⟨_,rfl⟩
           have c7:Hid (jy W3 v.heap.size (a.set k true)):=by show jy _ _ _;rw[<-bj.out];exact jy.set f.out k
           have af:Hid (ab [] v W3):=by show ab [] v W3;rw[<-bj.out];exact F.out.setCell (QU (by simp)) _
           have f0:=am f.out k
           go_upto_region 17 with fail
           rw[bj.out];go_wp2
           go_roundg (I.length-(l+1))
           case measure=>omega
           case rel=>exact⟨l+1,true,a.set k true,by omega,rfl,rfl,by go_num,⟨RK ar.out,fun _=>ar.out⟩,(fun h=>by cases h),c5,c7,af⟩
          ·have HM:=hI (fun h=>ck.out h (fun q hq=>by rw[show q=k by omega];exact N.out))
           go_wp2
           go_roundg (I.length-(l+1))
           case measure=>omega
           case rel=>exact⟨l+1,b,a,by omega,rfl,rfl,by go_num,HC,HM,m,f,F⟩
         ·have HM:=hI (fun h=>ck.out h (fun q hq=>absurd hq (by omega)))
          go_wp2
          go_roundg (I.length-(l+1))
          case measure=>omega
          case rel=>exact⟨l+1,b,a,by omega,rfl,rfl,by go_num,HC,HM,m,f,F⟩
        ·have ei:l=I.length:=by omega
         subst ei
         have HM:Hid (b=false->∀E,E<t+1->vx o u a E):=fun h E c3=>by
          by_cases e:E=t
          ·rw[e];exact ba.out a (HT.out h).2
          ·exact(HT.out h).1 E (by omega)
         clear bf;go_wp2
         go_roundg (w+1-(t+1))
         case measure=>omega
         case rel=>exact⟨t+1,b,a,by omega,rfl,rfl,by go_num,HC,HM,m,f,F⟩
    ·have et:t=w+1:=by omega
     subst et;have bg:¬(w:Int)+1<=(w:Int):=by omega
     have HM:Hid (b=false->∀t,t<=w->vx o u a t):=fun h t ht=>HT.out h t (by omega)
     have dT:=HC.out.1;have ar:=hI HC.out.2;go_wp2
     go_roundg (2*aQ a+(if b=true then 1 else 0))
     case measure =>
      cases b
      ·rw[QS (by simp)];omega
      ·have:=ar.out rfl
       rw[QV rfl];omega
     case rel=>exact⟨b,a,rfl,rfl,m,HM,f,F⟩
theorem OV:(prog.info? 122).map (fun i=>(i.zero,i.size,i.bytes))=some (some (.agg #[.slice none 0 0,.int .i64 0,.string ⟨#[]⟩,.int .i64 0,.int .i64 0]),5,64):=by kernel_rfl
theorem Gm:(prog.info? 38).map (fun i=>(i.zero,i.size,i.bytes))=some (some (.agg #[.string ⟨#[]⟩,.int .i64 0,.int .i64 0,.string ⟨#[]⟩,.int .i64 0,.int .i64 0]),6,64):=by kernel_rfl
theorem pU:(⟨(fP M).e,(fP M).size,(fP M).n+1,(fP M).xs++NR y4⟩:dN)=fP (M++[y4]):=gM _ _ _ _ _
theorem rK(x:ik):(⟨(fM H).e,(fM H).size,(fM H).n+1,(fM H).xs++jJ x⟩:dN)=fM (H++[x]):=gM _ _ _ _ _
theorem cm.keptS{α:Type}{f:α->List Value}{L:List α}{S:List Nat}(h:cm l zt b f L)(k:ab S l n)(m:∀g,zt=some ⟨g,0,none⟩->g∉S):cm n zt b f L:=fun j x d=>by
 obtain⟨g,e,a,c⟩:=h j x d;exact⟨g,e,QW a k.size,fun i u o=>by rw[Q5 (k.block g a (m g e))];exact c i u o⟩
def Kj(w:World)(h1 h2:Hd)(x:jS×Hd):Prop:=∀g,x.2.ao=some ⟨g,0,none⟩->w.heap.size<=g/\h1.blk≠some g/\h2.blk≠some g
structure vC(w wr:World)(v b:Nat)(x0 x1:Value)(PS:List (jS×Hd))(h1:Hd)(RS:List ik)(h2:Hd):Prop where
 d:wr.heap[v]?=some (.cells #[x0,x1,.pointer (some ⟨b,0,none⟩),.slice h1.ao PS.length h1.cap,.slice h2.ao RS.length h2.cap] 85 (0,0))
 lt:v<w.heap.size
 o1:aw wr h1 (fP PS)
 o2:aw wr h2 (fM RS)
 f1:∀k,h1.blk=some k->w.heap.size<=k
 f2:∀k,h2.blk=some k->w.heap.size<=k
 ap:∀k,h1.blk=some k->h2.blk≠some k
 kept:ab [v] w wr
 q:∀x∈PS,cm wr x.2.ao 6 kU x.1.st/\Kj w h1 h2 x
 ql:∀x∈PS,∀g,x.2.ao=some ⟨g,0,none⟩->g<wr.heap.size
variable {w wr w':World} {v b:Nat} {x0 x1:Value} {PS:List (jS×Hd)} {h1 h1':Hd} {RS:List ik} {h2 h2':Hd}
theorem oA(k:ab [] l n):ab [b] l n:=k.mono (by simp)
theorem vC.Va(a:vC w wr v b x0 x1 PS h1 RS h2)(k:ab [] wr w'):vC w w' v b x0 x1 PS h1 RS h2 :=
 ⟨k.get a.d (by simp),a.lt,a.o1.Va k,a.o2.Va k,a.f1,a.f2,a.ap,a.kept.trans (oA k),fun x c=>⟨(a.q x c).1.Va k,(a.q x c).2⟩,fun x c g e=>QW (a.ql x c g e) k.size⟩
theorem vC.jds(a:vC w wr v b x0 x1 PS h1 RS h2):Ol wr v b x0 x1 PS h1.ao h1.cap RS h2.ao h2.cap :=
 ⟨a.d,a.o1.srcG NS,fun x c=>(a.q x c).1,a.o2.srcG xe⟩
theorem tJ(e:S.ao=some ⟨b,0,none⟩):S.blk=some b:=by unfold Hd.blk;rw[e];rfl
theorem vC.addP(a:vC w wr v b x0 x1 PS i RS n)(x:jS×Hd)(I:cm wr x.2.ao 6 kU x.1.st)(H:Kj w i n x)(z:∀g,x.2.ao=some ⟨g,0,none⟩->g<wr.heap.size)(g:bt wr w' i h1')(o:aw w' h1' (fP (PS++[x])))(m:Nat)(E:m=PS.length+1) :
  vC w (w'.setCell ⟨v,3,none⟩ (.slice h1'.ao m h1'.cap)) v b x0 x1 (PS++[x]) h1' RS n:=by
 have A:v∉i.blk.toList:=fun c=>by have:=a.f1 _ (aN c);have:=a.lt;omega
 have D:=g.kept.get a.d A;have C:v<wr.heap.size:=ae a.d;have u:ab [v] w' (w'.setCell ⟨v,3,none⟩ (.slice h1'.ao m h1'.cap)):=(ab.refl _ _).setCell (Q0 (by simp)) _
 have p:∀k,h1'.blk=some k->w.heap.size<=k:=fun k f=>by
  rcases g.blk with e | ⟨q,e,c⟩
  ·exact a.f1 k (by rw[<-e];exact f)
  ·rw[f]at e;cases e;exact Q1 a.kept.size c
 have s:∀y∈PS++[x],cm wr y.2.ao 6 kU y.1.st/\Kj w i n y/\∀g,y.2.ao=some ⟨g,0,none⟩->g<wr.heap.size:=fun y j=>by
  rcases Rq.1 j with h | h
  ·exact⟨(a.q y h).1,(a.q y h).2,a.ql y h⟩
  ·rw[Q8]at h;subst h;exact⟨I,H,z⟩
 refine⟨?_,a.lt,?_,?_,p,a.f2,?_,?_,?_,?_⟩
 ·rw[ah D 3]
  congr 2
  rw[E,QZ];rfl
 ·exact o.aside (fun k f e=>by have:=p k f;have:=a.lt;omega) _ _
 ·exact(g.beside a.o2 (fun k f c=>a.ap k c f)).aside (fun k f e=>by have:=a.f2 k f;have:=a.lt;omega) _ _
 ·intro k f c
  rcases g.blk with e | ⟨q,e,z⟩
  ·exact a.ap k (by rw[<-e];exact f) c
  ·have:=a.o2.lt c
   rw[f]at e;cases e;omega
 ·refine⟨g.kept.os.trans a.kept.os,g.kept.tape.trans a.kept.tape,g.kept.output.trans a.kept.output,?_,fun k f B=>?_⟩
  ·exact Q1 (Q1 a.kept.size g.kept.size) u.size
  ·have i:=a.kept.size
   have n:=g.kept.size;rw[u.block k (by omega) B,g.kept.block k (by omega) (fun c=>by have:=a.f1 _ (aN c);omega),a.kept.block k f B]
 ·intro y j
  obtain⟨G,l,F⟩:=s y j;refine⟨(G.keptS g.kept (fun q e c=>(l q e).2.1 (aN c))).keptS u (fun q e c=>?_),fun q e=>⟨(l q e).1,fun c=>?_,(l q e).2.2⟩⟩
  ·have:=(l q e).1
   have:=a.lt;simp at c;omega
  ·rcases g.blk with t | ⟨r,t,z⟩
   ·exact(l q e).2.1 (by rw[<-t];exact c)
   ·have:=F q e
    rw[c]at t;cases t;omega
 ·intro y j q e
  have i:=(s y j).2.2 q e;have n:=g.kept.size;have J:=u.size;omega
theorem vC.addR(a:vC w wr v b x0 x1 PS s RS l)(x:ik)(g:bt wr w' l h2')(o:aw w' h2' (fM (RS++[x])))(m:Nat)(C:m=RS.length+1) :
  vC w (w'.setCell ⟨v,4,none⟩ (.slice h2'.ao m h2'.cap)) v b x0 x1 PS s (RS++[x]) h2':=by
 have t:v∉l.blk.toList:=fun c=>by have:=a.f2 _ (aN c);have:=a.lt;omega
 have B:=g.kept.get a.d t;have A:v<wr.heap.size:=ae a.d;have p:ab [v] w' (w'.setCell ⟨v,4,none⟩ (.slice h2'.ao m h2'.cap)):=(ab.refl _ _).setCell (Q0 (by simp)) _
 have i:∀k,h2'.blk=some k->w.heap.size<=k:=fun k f=>by
  rcases g.blk with e | ⟨q,e,c⟩
  ·exact a.f2 k (by rw[<-e];exact f)
  ·rw[f]at e;cases e;exact Q1 a.kept.size c
 refine⟨?_,a.lt,?_,?_,a.f1,i,?_,?_,?_,?_⟩
 ·rw[ah B 4]
  congr 2
  rw[C,QZ];rfl
 ·exact(g.beside a.o1 (fun k f c=>a.ap k f c)).aside (fun k f e=>by have:=a.f1 k f;have:=a.lt;omega) _ _
 ·exact o.aside (fun k f e=>by have:=i k f;have:=a.lt;omega) _ _
 ·intro k f c
  rcases g.blk with e | ⟨q,e,z⟩
  ·exact a.ap k f (by rw[<-e];exact c)
  ·have:=a.o1.lt f
   rw[c]at e;cases e;omega
 ·refine⟨g.kept.os.trans a.kept.os,g.kept.tape.trans a.kept.tape,g.kept.output.trans a.kept.output,?_,fun k f u=>?_⟩
  ·exact Q1 (Q1 a.kept.size g.kept.size) p.size
  ·have s:=a.kept.size
   have l:=g.kept.size;rw[p.block k (by omega) u,g.kept.block k (by omega) (fun c=>by have:=a.f2 _ (aN c);omega),a.kept.block k f u]
 ·intro y j
  obtain⟨E,h⟩:=a.q y j;have D:=a.ql y j;refine⟨(E.keptS g.kept (fun q e c=>(h q e).2.2 (aN c))).keptS p (fun q e c=>?_),fun q e=>⟨(h q e).1,(h q e).2.1,fun c=>?_⟩⟩
  ·have:=(h q e).1
   have:=a.lt;simp at c;omega
  ·rcases g.blk with n | ⟨r,n,z⟩
   ·exact(h q e).2.2 (by rw[<-n];exact c)
   ·have:=D q e
    rw[c]at n;cases n;omega
 ·intro y j q e
  have s:=a.ql y j q e;have l:=g.kept.size;have F:=p.size;omega
theorem Pq(h:w<H.length)(u:Int):(H.flatMap jJ).set (w*6+1) (.int .i64 u)=(H.set w { ff H w with Vb:=u }).flatMap jJ:=by
 induction H generalizing w with
 | nil=>simp at h
 | cons r H a =>
  cases w with
  | zero=>rfl
  | succ w =>
   have e:(w+1)*6+1=6+(w*6+1):=by omega
   have b:ff (r :: H) (w+1)=ff H w:=rfl;rw[b,SA,RH,RH,<-a w (by simpa using h),e,SQ _ _ (by rw[xe];omega),xe]
   congr 2
   omega
theorem vC.put(a:vC w wr v b x0 x1 PS h1 RS h2)(i:h2.ao=some ⟨b,0,none⟩)(k:Nat)(m:k<RS.length)(u:Int):vC w (wr.setCell ⟨b,k*6+1,none⟩ (.int .i64 u)) v b x0 x1 PS h1 (RS.set k { ff RS k with Vb:=u }) h2:=by
 have h:=tJ i;have o:=a.f2 b h;have r:=a.o2.lt h;have j:=a.lt;have c:ab [b] wr (wr.setCell ⟨b,k*6+1,none⟩ (.int .i64 u)):=(ab.refl _ _).setCell (Q0 (by simp)) _;refine⟨?_,a.lt,?_,?_,a.f1,a.f2,a.ap,?_,?_,?_⟩
 ·rw[c.get a.d (by simp;omega),Ru]
 ·exact a.o1.aside (fun q f e=>a.ap q f (by rw[e];exact h)) _ _
 ·have:=a.o2.putAt i (k*6+1) (.int .i64 u)
  have e:(⟨(fM RS).e,(fM RS).size,(fM RS).n,(fM RS).xs.set (k*6+1) (.int .i64 u)⟩:dN)=fM (RS.set k { ff RS k with Vb:=u }):=by
   show(⟨_,_,RS.length,(RS.flatMap jJ).set (k*6+1) (.int .i64 u)⟩:dN)=_
   rw[Pq RS k m u];unfold fM kT;rw[Ru]
  rw[e]at this;exact this
 ·exact⟨c.os.trans a.kept.os,c.tape.trans a.kept.tape,c.output.trans a.kept.output,Q1 a.kept.size c.size,fun q f p=>by
   have:=a.kept.size;rw[c.block q (by omega) (by simp;omega),a.kept.block q f p]⟩
 ·intro y g
  exact⟨(a.q y g).1.keptS c (fun q e f=>by simp at f;subst f;exact((a.q y g).2 q e).2.2 h),(a.q y g).2⟩
 ·intro y g q e
  exact QW (a.ql y g q e) c.size
end Go.Proofs.YtpddjjabfbfifaaGreat
