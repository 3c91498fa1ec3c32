import Derived.Deep.RegionLaw
import Derived.Test.YtpddjjabfbfifaaGreatG16
namespace Go.Proofs.YtpddjjabfbfifaaGreat
open Go.RowKit Tryz
set_option maxRecDepth 100000
set_option maxHeartbeats 40000000
variable{l f:World}{b n H:Nat}{k:Fs}{T v:Hd}{z7:Bool}{D L N:Value}{y:List (jS×Hd)}{zt:Option Addr}{d:List ik}{o:List Bool}(g:List Tk)(I:List Sm)(M:List (jS×Hd))(i:Nat)(a:List ik)(S:List Bool)(x w:Nat)(y4:jS×Hd)
def PU(w:World)(v:Nat)(fs:Fs)(h:Hd)(n d:ByteArray)(p2 p3 p4:Value)(e:Ending)(w':World):Prop :=
 e=.returned (.int .i64 (fc fs n d).1)/\((fc fs n d).1=0->∃h',fB w' v (fc fs n d).2 h' false p2 p3 p4/\uY w w' v h h')/\((fc fs n d).1≠0->ab [] w w')
theorem fB.off(a:fB l b k T z7 D L N):fB (l.setCell ⟨b,1,none⟩ (.bool false)) b k T false D L N:=by
 have f:ab [b] l (l.setCell ⟨b,1,none⟩ (.bool false)):=(ab.refl _ _).setCell (Q1 (by simp)) _;exact⟨by rw[ah a.d];rfl,a.own.Vg (fun q c=>f.block q (a.own.lt c) (by simp;intro e;exact a.far (by rw[<-e];exact c))),a.far,a.le⟩
theorem uY.set(r:uY l f b T v)(i:Nat)(u:Value):uY l (f.setCell ⟨b,i,none⟩ u) b T v:=⟨r.kept.setCell (Q1 (by simp)) _,r.blk⟩
theorem fB.grown{c:Fs}(a:fB l b k T z7 D L N)(g:bt l f T v)(o:aw f v (cr c))(j:c.length<=4){m:Nat}(p:m=c.length):fB (f.setCell ⟨b,0,none⟩ (.slice v.ao m v.cap)) b c v z7 D L N:=by
 have n:=g.kept.get a.d (fun i=>a.far (aN i));have s:=ae a.d
 have h:v.blk≠some b:=by
  rcases g.blk with e | ⟨q,e,i⟩
  ·rw[e];exact a.far
  ·rw[e];intro x;cases x;omega
 have r:ab [b] f (f.setCell ⟨b,0,none⟩ (.slice v.ao m v.cap)):=(ab.refl _ _).setCell (Q1 (by simp)) _;subst p;exact⟨by rw[ah n];rfl,o.Vg (fun q i=>r.block q (o.lt i) (by simp;intro e;exact h (by rw[<-e];exact i))),h,j⟩
theorem fB.wrote(a:fB l b k T z7 D L N)(f:T.ao=some ⟨n,0,none⟩)(g:H<k.length)(c d:ByteArray):fB ((l.setCell ⟨n,H*2,none⟩ (.string c)).setCell ⟨n,H*2+1,none⟩ (.string d)).drew b (k.set H (c,d)) T z7 D L N:=by
 have i:T.blk=some n:=by unfold Hd.blk;rw[f];rfl
 have h:ab [n] l ((l.setCell ⟨n,H*2,none⟩ (.string c)).setCell ⟨n,H*2+1,none⟩ (.string d)).drew:=(((ab.refl _ _).setCell (Q1 (by simp)) _).setCell (Q1 (by simp)) _).drew
 have j:aw ((l.setCell ⟨n,H*2,none⟩ (.string c)).setCell ⟨n,H*2+1,none⟩ (.string d)) T (cr (k.set H (c,d))):=by
  have:=(a.own.putAt f (H*2) (.string c)).putAt f (H*2+1) (.string d)
  have e:(⟨(cr k).e,(cr k).size,(cr k).n,((cr k).xs.set (H*2) (.string c)).set (H*2+1) (.string d)⟩:dN)=cr (k.set H (c,d)):=by
   simp only[cr,List.length_set];rw[Gk k H c d g]
  rw[e]at this;exact this
 refine⟨?_,j.Vb (ab.refl [] _).drew,a.far,by rw[Rv];exact a.le⟩;rw[Rv];exact h.get a.d (by simp;intro e;exact a.far (by rw[i,e]))
theorem Jm(b:Fs)(h:Hd)(L:Bool)(p2 p3 p4:Value)(n d:ByteArray)(r:World)(Q:fB r w b h L p2 p3 p4)(hn:n.size<=1073741824)(hd:d.size<=4294967296) :
  Calls prog 15 #[.pointer (some ⟨w,0,none⟩),.string n,.string d] r fun e U=>PU r w b h n d p2 p3 p4 e U:=by
 have N:Hid (Calls prog 34 #[.string n,.string d] r fun e U=>e=.returned (.int .i64 (cJ n d))/\U=r):=BE n d r hn hd
 cases J:(cJ n d==0)
 ·have t:Hid (fc b n d=(cJ n d,b)):=by show _=_;unfold fc;rw[QW (by simpa using J)]
  have HR:=hI Q;generalize cJ n d=c at *;go_enter func15,ntmps15;go_wp2_with (go_at_call 34;refine QU N.out ?_;rintro e E ⟨rfl,a⟩;rw[a];clear a);go_ret;exact⟨by rw[t.out];rfl,by rw[t.out];exact⟨(fun q=>by rw[show c=0 from q]at J;cases J),fun _=>ab.refl _ _⟩⟩
 ·have o:cJ n d=0:=by simpa using J
  rw[o]at N;obtain⟨W,M⟩:∃W,Hid (r.alloc (.cells #[.string n,.string d] 68)=W):=⟨_,rfl⟩
  have Z:ab [] r W:=by rw[<-M.out];exact(ab.refl [] _).alloc _
  have T:W.heap[r.heap.size]?=some (.cells #[.string n,.string d] 68 (0,0)):=by rw[<-M.out];exact QS _ _
  have f:=Q.Vb Z;have i:=hI f;have P:W.cell? ⟨w,0,none⟩=some (.slice h.ao b.length h.cap):=by rw[aa f.d];rfl
  have c1:W.cell? ⟨w,1,none⟩=some (.bool L):=by rw[aa f.d];rfl
  have f0:=am f.d 0;have f1:=am f.d 1;have z0:=ae f.d;have b0:W.cell? ⟨r.heap.size,0,none⟩=some (.string n):=by rw[aa T];rfl
  have b1:W.cell? ⟨r.heap.size,1,none⟩=some (.string d):=by rw[aa T];rfl
  have zb:=ae T;have C:=hI Z;have V:=Q.le;have l:=hI (mu b h.ao h.cap n W (by omega) f.own.srcFi);clear f Q Z T J;obtain⟨m,A⟩:∃m,Hid (b.length=m):=⟨_,rfl⟩
  rw[A.out]at P l V
  rcases pI n b with v | ⟨k,I,v⟩
  ·rw[v]at l
   by_cases hl:m=4
   ·have t:Hid (fc b n d=(1,b)):=by show _=_;unfold fc;rw[QT (by simpa using o),v,QT (by omega),QW (by rw[A.out];omega)]
    subst hl;clear v o;go_enter func15,ntmps15
    go_upto_region 5 with (go_at_call 34;refine QU N.out ?_;rintro e E ⟨rfl,a⟩;rw[a];clear a)
    rw[M.out];go_wp2_with (go_at_call 35;refine QU l.out ?_;rintro e E ⟨rfl,a⟩;rw[a];clear a);go_ret;exact⟨by rw[t.out];rfl,by rw[t.out];exact⟨(fun q=>by cases q),fun _=>C.out⟩⟩
   ·have t:Hid (fc b n d=(0,b++[(n,d)])):=by show _=_;unfold fc;rw[QT (by simpa using o),v,QT (by omega),QT (by rw[A.out];omega)]
    have ap:((m:Int)==4)=false:=by simp;omega
    have B:Hid ((cr b).n=m):=A.out;clear v o;obtain⟨i0,hi,ad,af,ac⟩:=Re zZ;have hD:Hid (fB (W.alloc (.cells #[.string n,.string d] 68)).drew w b h L p2 p3 p4):=i.out.Vb ((ab.refl [] W).alloc _).drew
    have s2:Hid (∀j u,([.string n,.string d]:List Value)[j]?=some u->(W.alloc (.cells #[.string n,.string d] 68)).drew.cell? ((⟨W.heap.size,0,none⟩:Addr).add j)=some u):=by
     intro j u hj;rw[bL];have I:(W.alloc (.cells #[.string n,.string d] 68)).drew.heap[W.heap.size]?=some (.cells #[.string n,.string d] 68 (0,0)):=QS _ _;rw[aa I];simpa using hj
    have s3:Hid (∀u∈([.string n,.string d]:List Value),u.oneCell'=true):=by intro u hu;simp only[List.mem_cons,List.not_mem_nil,or_false]at hu;rcases hu with rfl | rfl <;> rfl
    have s4:Hid ((cr b).n+1<=maxLen):=by show _<=_;rw[B.out];unfold maxLen;omega
    have s5:Hid (((cr b).n+1)*32<=140737488355328):=by show _<=_;rw[B.out];omega
    go_enter func15,ntmps15
    go_upto_region 5 with (go_at_call 34;refine QU N.out ?_;rintro e E ⟨rfl,a⟩;rw[a];clear a)
    rw[M.out]
    go_upto_region 9 with (go_at_call 35;refine QU l.out ?_;rintro e E ⟨rfl,a⟩;rw[a];clear a)
    go_region_law (refine cd rfl (.tmp 41) (.tmp 43) 33 rfl i0 (.agg #[.string ⟨#[]⟩,.string ⟨#[]⟩]) 32 h (cr b) underlying33 hi ad af ac rfl (show 0<2 by omega) (by rw[B.out];simp[Act.eval]) hD.out.own ⟨W.heap.size,0,none⟩ 1 1 [.string n,.string d] (by simp[Act.eval]) rfl s2.out s3.out Rc s4.out s5.out ?_;intro S p O K y G;have G5:=(show Hid (bt W O h ⟨some ⟨S,0,none⟩,p⟩) from(bt.Vb ((ab.refl [] W).alloc _).drew).trans (bt.made y (by simpa using G)));have R:=G5.out.kept.get i.out.d (fun hq=>i.out.far (aN hq));have e5:=am R 0;have e6:O.cell? ⟨w,0,none⟩=some (.slice h.ao m h.cap):=(by rw[aa R,<-A.out];rfl);have z5:=ae R)
    all_goals
     have H:aw O ⟨some ⟨S,0,none⟩,p⟩ (cr (b++[(n,d)])):=by rw[<-wX];exact K
     have s:=hI (i.out.grown (m:=(cr b).n+1) G5.out H (by simp;rw[A.out];omega) (by simp[cr]));obtain⟨X,D⟩:∃X,Hid (O.setCell ⟨w,0,none⟩ (.slice (some ⟨S,0,none⟩) ((cr b).n+1) p)=X):=⟨_,rfl⟩
     have x:=(show Hid (uY r X w h ⟨some ⟨S,0,none⟩,p⟩) by rw[<-D.out];exact((uY.of (bt.Vb C.out)).trans (uY.of G5.out)).set 0 _);rw[D.out]at s ⊢;have x1:=am s.out.d 1;have x2:X.cell? ⟨w,1,none⟩=some (.bool L):=by rw[aa s.out.d];rfl
     have x3:=ae s.out.d;clear K y G R e5 e6 z5 H P c1 f0 f1 D;go_wp2;go_ret;exact⟨by rw[t.out];rfl,by rw[t.out];exact⟨fun _=>⟨_,s.out.off,x.out.set 1 _⟩,fun q=>absurd rfl q⟩⟩
  ·have t:Hid (fc b n d=(0,b.set k (n,d))):=by show _=_;unfold fc;rw[QT (by simpa using o),v,QW (by omega),Sa]
   rw[v]at l;obtain⟨g,z,ag,ax⟩:=qq i.out.own (show 0<b.length by omega);obtain⟨g',F,-,q0,q1⟩:=i.out.own.srcFi.2 k I;rw[z]at F
   cases F
   have s:=hI (i.out.wrote z I n d);have an:(k:Int)<(m:Int):=by rw[A.out]at I;omega
   have ai:(0:Int)<=(k:Int):=by omega
   have ar:¬(k:Int)<0:=by omega
   have Y:W.frozen? ⟨g,k*2,none⟩=false/\W.frozen? ⟨g,k*2+1,none⟩=false:=by
    rcases i.out.own.Vm with ⟨e,-,-⟩ | ⟨g2,al,e1,F,-⟩
    ·rw[e]at z;cases z
    ·rw[z]at e1;cases e1
     exact⟨am F _,am F _⟩
   obtain⟨Y,u1⟩:=Y
   have x:Hid (uY r ((W.setCell ⟨g,k*2,none⟩ (.string n)).setCell ⟨g,k*2+1,none⟩ (.string d)).drew w h h):=by
    have hb:h.blk=some g:=by unfold Hd.blk;rw[z];rfl
    have:=C.out.mono (S':=w :: h.blk.toList) (by simp);exact⟨((this.setCell (Q1 (by rw[hb];simp)) _).setCell (Q1 (by rw[hb];simp)) _).drew,Q1 rfl⟩
   rw[z]at P l;clear v o;go_enter func15,ntmps15
   go_upto_region 5 with (go_at_call 34;refine QU N.out ?_;rintro e E ⟨rfl,a⟩;rw[a];clear a)
   rw[M.out]
   go_upto_region 10 with (go_at_call 35;refine QU l.out ?_;rintro e E ⟨rfl,a⟩;rw[a];clear a)
   go_region
   obtain⟨X,D⟩:∃X,Hid (((W.setCell ⟨g,k*2,none⟩ (.string n)).setCell ⟨g,k*2+1,none⟩ (.string d)).drew=X):=⟨_,rfl⟩
   rw[D.out]at s x ⊢;have x1:=am s.out.d 1;have x2:X.cell? ⟨w,1,none⟩=some (.bool L):=by rw[aa s.out.d];rfl
   have x3:=ae s.out.d;clear P c1 f0 f1 D q0 q1 Y u1;go_wp2;go_ret;exact⟨by rw[t.out];rfl,by rw[t.out];exact⟨fun _=>⟨_,s.out.off,x.out.set 1 _⟩,fun q=>absurd rfl q⟩⟩
def NS(x:jS×Hd):List Value:=[.slice x.2.ao x.1.st.length x.2.cap,.int .i64 x.1.why,.string x.1.file,.int .i64 x.1.line,.int .i64 x.1.col]
theorem NT:(NS y4).length=5:=rfl
def fP(L:List (jS×Hd)):dN:=kU 122 5 NS L
def fM(L:List ik):dN:=kU 38 6 jJ L
structure Om(w:World)(v b:Nat)(x0 x1:Value)(PS:List (jS×Hd))(aoP:Option Addr)(cP:Nat)(RS:List ik)(aoR:Option Addr)(cR:Nat):Prop where
 d:w.heap[v]?=some (.cells #[x0,x1,.pointer (some ⟨b,0,none⟩),.slice aoP PS.length cP,.slice aoR RS.length cR] 85 (0,0))
 p:cm w aoP 5 NS PS
 q:∀x∈PS,cm w x.2.ao 6 kV x.1.st
 r:cm w aoR 6 jJ RS
theorem Om.Vb{c:Option Addr}{e:Nat}(a:Om l b n D L y zt H d c e)(k:ab [] l f):Om f b n D L y zt H d c e :=
 ⟨k.get a.d (by simp),a.p.Vb k,fun x g=>(a.q x g).Vb k,a.r.Vb k⟩
def ff(RS:List ik)(a:Nat):ik:=RS.getD a N8
theorem Az(h:w<a.length):a[w]?=some (ff a w):=by
 unfold ff;rw[QQ,QP h];rfl
def fR(RS:List ik)(a:Nat):Bool:=((ff RS a).Vc==4)||((ff RS a).Vc==5)
theorem JM(t y:Value)(q:List (jS×Hd))(j:Option Addr)(u:Nat)(a:List ik)(k:Option Addr)(n:Nat)(f:World)(h:Om f i x t y q j u a k n)(z:w<a.length) :
  Calls prog 66 #[.pointer (some ⟨i,0,none⟩),.int .i64 w] f fun e s=>e=.returned (.bool (fR a w))/\s=f:=by
 obtain⟨g,rfl,D,c⟩:=h.r w _ (Az a w z);have B:f.cell? ⟨g,w*6+1,none⟩=some (.int .i64 (ff a w).Vc):=c 1 _ rfl;have A:f.cell? ⟨i,4,none⟩=some (.slice (some ⟨g,0,none⟩) a.length n):=by rw[aa h.d];rfl
 have C:=ae h.d;have v:(w:Int)<(a.length:Int):=by omega
 have m:Hid (fR a w=(((ff a w).Vc==4)||((ff a w).Vc==5))):=rfl;generalize (ff a w).Vc=o at *;clear h c
 cases l:(o==4)
 ·cases p:(o==5)
  ·have b:Hid (fR a w=false):=by show _=_;rw[m.out,l,p];rfl
   go_enter func66,ntmps66;go_wp2;go_ret;exact⟨aD b.out.symm,rfl⟩
  ·have b:Hid (fR a w=true):=by show _=_;rw[m.out,l,p];rfl
   go_enter func66,ntmps66;go_wp2;go_ret;exact⟨aD b.out.symm,rfl⟩
 ·have b:Hid (fR a w=true):=by show _=_;rw[m.out,l];rfl
  go_enter func66,ntmps66;go_wp2;go_ret;exact⟨aD b.out.symm,rfl⟩
def lr(PS:List (jS×Hd))(t:Nat):jS×Hd:=PS.getD t (⟨[],0,⟨#[]⟩,0,0⟩,⟨none,0⟩)
theorem As(h:w<M.length):M[w]?=some (lr M w):=by
 unfold lr;rw[QQ,QP h];rfl
def jp(PS:List (jS×Hd))(RS:List ik)(a k:Nat):Prop:=∀P:Nat->Prop,P a->(∀t k i:Nat,P t->fR RS t=true->i<(lr PS t).1.st.length->(bO (lr PS t).1.st i).ref=(k:Int)->P k)->P k
theorem jp.self:jp y d b b:=fun _ h _=>h
theorem jp.step{t:Nat}(h:jp y d b t)(c:fR d t=true)(f:H<(lr y t).1.st.length)(e:(bO (lr y t).1.st H).ref=(n:Int)):jp y d b n:=fun P g a=>a t n H (h P g a) c f e
def vy(PS:List (jS×Hd))(RS:List ik)(inn:List Bool)(t:Nat):Prop:=inn.getD t false=true->fR RS t=true->∀i,i<(lr PS t).1.st.length->∀k:Nat,(bO (lr PS t).1.st i).ref=(k:Int)->inn.getD k false=true
structure vC(PS:List (jS×Hd))(RS:List ik)(a:Nat)(inn:List Bool):Prop where
 len:inn.length=a+1
 self:inn.getD a false=true
 sub:∀k,inn.getD k false=true->jp PS RS a k
theorem zY(h:w<S.length):S[w]?=some (S.getD w false):=by
 rw[QQ,QP h];rfl
theorem Oa(h:S.getD w false=true):(S.set x true).getD w false=true:=by
 rw[QQ]at h ⊢;rw[RU]
 by_cases e:x=w
 ·rw[QW e]
  split
  ·rfl
  ·next a=>rw[Rx (by omega)]at h;cases h
 ·rw[QT e];exact h
theorem GK(h:(S.set x true).getD w false=true):w=x∨S.getD w false=true:=by
 by_cases e:x=w
 ·exact Q1 e.symm
 ·right
  rw[QQ,RU,QT e,<-QQ]at h;exact h
theorem vC.set(h:vC y d b o)(a:jp y d b n):vC y d b (o.set n true) :=
 ⟨by rw[Rv];exact h.len,Oa o n b h.self,fun q c=>by
  rcases GK o n q c with e | e
  ·rw[e];exact a
  ·exact h.sub q e⟩
theorem vC.all(h:vC y d b o)(g:∀t,t<=b->vy y d o t)(k:Nat):o.getD k false=true ↔ jp y d b k:=by
 refine⟨h.sub k,fun m=>?_⟩;refine m (fun k=>o.getD k false=true) h.self (fun t k i a j f l=>?_)
 have c:t<=b:=by
  have n:=h.len
  by_cases e:t<o.length
  ·omega
  ·rw[QQ,Rx (by omega)]at a;cases a
 exact g t c a j i f k l
def Qv(S:List Sm)(inn:List Bool)(t:Nat):Bool:=inn.getD t false&&((au S t).k.toList == [36,97])
def PY(S:List Sm)(RS:List ik)(inn:List Bool)(t:Nat):Bool:=inn.getD t false&&(((au S t).k.toList == [36,112]) && !fR RS t)
def MV(T:List Tk)(S:List Sm)(inn:List Bool)(n:Nat):List ByteArray:=((List.range n).filter (Qv S inn)).map (fun t=>bG T (au S t))
def DK(T:List Tk)(S:List Sm)(RS:List ik)(inn:List Bool)(n:Nat):List ByteArray:=((List.range n).filter (PY S RS inn)).map (fun t=>bG T (au S t))
theorem KC:MV g I S (w+1)=MV g I S w++(if Qv I S w=true then [bG g (au I w)] else []):=by
 unfold MV;rw[gZ,Ry]
 split <;> rfl
theorem KI:DK g I a S (w+1)=DK g I a S w++(if PY I a S w=true then [bG g (au I w)] else []):=by
 unfold DK;rw[gZ,Ry]
 split <;> rfl
def OG(T:List Tk)(S:List Sm)(PS:List (jS×Hd))(RS:List ik)(a:Nat)(w:World)(e:Ending)(w':World):Prop :=
 ∃(inn:List Bool) (h1 h2:Hd),(∀k,inn.getD k false=true ↔ jp PS RS a k)/\e=.returned (.tuple #[.slice h1.ao (MV T S inn (a+1)).length h1.cap,.slice h2.ao (DK T S RS inn (a+1)).length h2.cap])/\gw w w' h1 (aB (MV T S inn (a+1)))/\gw w w' h2 (aB (DK T S RS inn (a+1)))
theorem gw.two{j:World}{d:Hd}{r c n:dN}(a:gw l f T r)(b:gw l f d n)(m:∀k,T.blk=some k->d.blk≠some k)(g:bt f j T v)(o:aw j v c):gw l j v c/\gw l j d n/\∀k,v.blk=some k->d.blk≠some k:=by
 have p:=a.Vl g o;refine⟨p,⟨g.beside b.own (fun k h i=>m k i h),b.far,p.kept⟩,fun k h i=>?_⟩
 rcases g.blk with e | ⟨q,e,s⟩
 ·exact m k (by rw[<-e];exact h) i
 ·have:=b.own.lt i
  rw[h]at e
  cases e
  omega
theorem jy.out(h:jy l b o):b<l.heap.size:=ae h
theorem Gr(k:List UInt8)(h:(k == [36,97])=true):(k == [36,112])=false:=by
 have:=TR h;rw[this];rfl
theorem CO(T:List Tk)(bx:Option Addr)(cT:Nat)(S:List Sm)(aT:Option Addr)(cS:Nat)(x0 x1:Value)(o:List (jS×Hd))(a0:Option Addr)(cP:Nat)(u:List ik)(cp:Option Addr)(cR:Nat)(v:World)(hD:fz v x T bx cT S aT cS)(hJ:Om v i x x0 x1 o a0 cP u cp cR)(d3:w<o.length)(d2:w<u.length)(d1:w<S.length)(ha:w<=10000)(hA:∀j,j<=w->(au S j).a<T.length)(bz:∀t,t<=w->(lr o t).1.st.length<=100000000/\∀m,m<(lr o t).1.st.length->(bO (lr o t).1.st m).ref<=(w:Int)) :
  Calls prog 67 #[.pointer (some ⟨i,0,none⟩),.int .i64 w] v fun e z=>OG T S o u w v e z:=by
 obtain⟨i1,cA,cE,c8,dk⟩:=Re Ls;obtain⟨iS,cq,ba,a7,a6⟩:=Re js;have m2:=fun v=>dB (P:=prog) v 134 4 i1 _ underlying134 cA cE (w+1) 1 c8 (by rw[dk];omega) (by omega)
 obtain⟨mc,b1⟩:∃mc,Hid (madeCells (Value.bool false).cells ((w+1)*1)=mc):=⟨_,rfl⟩
 have cl:Hid (mc=((List.replicate (w+1) false).map Value.bool).toArray):=by show _=_;rw[<-b1.out,wE]
 rw[b1.out]at m2;have c9:((w+1:Nat):Int)=(w:Int)+1:=by omega
 have m3:=m2 v;rw[c9]at m3;obtain⟨W,HW⟩:∃W,Hid (v.alloc (.cells (mc.setIfInBounds w (.bool true)) 4)=W):=⟨_,rfl⟩
 have a2:jy (v.alloc (.cells mc 4)) v.heap.size (List.replicate (w+1) false):=by
  unfold jy;rw[cl.out];exact QS _ _
 have cj:Hid (jy W v.heap.size ((List.replicate (w+1) false).set w true)):=by
  show jy _ _ _
  unfold jy;rw[<-HW.out,cl.out];refine(QS _ _).trans ?_
  congr 2
  rw[Ru,Tn]
 have c5:Hid (ab [] v W):=by show ab [] v W;rw[<-HW.out];exact(ab.refl [] _).alloc _
 have b0:Hid (vC o u w ((List.replicate (w+1) false).set w true)):=by
  refine⟨by simp,by rw[QQ,Ug (by simp)];rfl,fun k Z=>?_⟩
  rcases GK _ w k Z with e | e
  ·rw[e];exact jp.self
  ·rw[QQ,Sf]at e
   split at e <;> cases e
 have c0:(v.alloc (.cells mc 4)).cell? ⟨v.heap.size,w,none⟩=some (.bool false):=a2.cell w false (by rw[Sf,QW (by omega)]);have f0:=am a2 w;have z0:=ae a2;have d9:(w:Int)<(w:Int)+1:=by omega
 have HD:=hI hD;have HJ:=hI hJ;have HA:=hI hA;have cV:=hI bz;have bT:Hid (∀t,t<=w->∀wx,ab [] v wx->Calls prog 66 #[.pointer (some ⟨i,0,none⟩),.int .i64 t] wx fun e z=>e=.returned (.bool (fR u t))/\z=wx):=fun t ht wx kx=>JM i x t x0 x1 o a0 cP u cp cR wx (hJ.Vb kx) (by omega)
 clear hD hJ hA bz a2 m2;go_enter func67,ntmps67
 go_upto_region 3 with fail
 rw[HW.out];clear c0 f0 z0 m3;go_wp2;obtain⟨O,cF⟩:∃O,Hid ((List.replicate (w+1) false).set w true=O):=⟨_,rfl⟩
 rw[cF.out]at cj b0
 go_loopg [7] (2*aQ O+1) (fun g ag wr=>∃(b:Bool) (a:List Bool),ag=.bool b/\g=2*aQ a+(if b=true then 1 else 0)/\Hid (vC o u w a)/\Hid (b=false->∀t,t<=w->vy o u a t)/\Hid (jy wr v.heap.size a)/\Hid (ab [] v wr))
 case atStart=>exact⟨true,O,rfl,rfl,b0,(fun h=>by cases h),cj,c5⟩
 case round =>
  obtain⟨b,a,rfl,hg,l,bp,f,E⟩:=hrel
  cases b
  ·have cX:=hI (vC.all l.out (bp.out rfl))
   have HL:=hI l.out.len;obtain⟨w1,bk⟩:∃w1,Hid (wr=w1):=⟨_,rfl⟩
   rw[bk.out];rw[bk.out]at f E;clear bk bp hg;have co:Hid (gw w1 w1 ⟨none,0⟩ (aB [])):=⟨QZ _ _ _ _,(by intro k Z;cases Z),ab.refl _ _⟩;have c6:Hid (([]:List ByteArray)=MV T S a 0):=rfl;have c3:Hid (([]:List ByteArray)=DK T S u a 0):=rfl;go_wp2
   go_loopg [12,13,14] (w+1) (fun g ax bd tv wr=>∃(t:Nat) (U V:Hd) (A B:List ByteArray),t<=w+1/\g=w+1-t/\ax=.slice U.ao A.length U.cap/\bd=.slice V.ao B.length V.cap/\tv=.int .i64 t/\(A.length<=t/\B.length<=t)/\Hid (A=MV T S a t)/\Hid (B=DK T S u a t)/\Hid (gw w1 wr U (aB A))/\Hid (gw w1 wr V (aB B))/\Hid (∀k,U.blk=some k->V.blk≠some k))
   case atStart=>exact⟨0,⟨none,0⟩,⟨none,0⟩,[],[],by omega,rfl,rfl,rfl,rfl,⟨QR _,QR _⟩,c6,c3,co,co,(by intro k Z;cases Z)⟩
   case round =>
    obtain⟨t,U,V,A,B,ht,c7,rfl,rfl,rfl,⟨ds,d6⟩,br,bw,ar,b3,ad⟩:=hrel
    by_cases af:t<=w
    ·have bo:(t:Int)<=(w:Int):=by omega
     have ap:t<S.length:=by omega
     have cf:=hI (E.out.trans ar.out.kept)
     have ch:Hid (Calls prog 87 #[.pointer (some ⟨x,0,none⟩),.int .i64 t] wr fun e z=>e=.returned (.string (bG T (au S t)))/\ab [] wr z):=by
      have:=nQ x t T bx cT S aT cS wr (fz.Vb HD.out cf.out) ap (by rw[bM S t ap];exact HA.out t af);rw[bM S t ap]at this;exact this
     have G:Hid (∀z:World,ab [] w1 z->z.cell? ⟨v.heap.size,t,none⟩=some (.bool (a.getD t false))/\v.heap.size<z.heap.size/\z.cell? ⟨i,2,none⟩=some (.pointer (some ⟨x,0,none⟩))/\i<z.heap.size/\∃gs,aT=some ⟨gs,0,none⟩/\gs<z.heap.size/\z.cell? ⟨x,1,none⟩=some (.slice aT S.length cS)/\x<z.heap.size/\z.cell? ⟨gs,t*4+3,none⟩=some (.string (au S t).k)):=fun z kw=>by
      have hs:=jy.kept f.out kw (by simp);have hd:=fz.Vb HD.out (E.out.trans kw);have hj:=Om.Vb HJ.out (E.out.trans kw);obtain⟨-,s0,hb⟩:=hd.cells;obtain⟨gs,e3,a5,-,-,-,q3⟩:=hd.s.2 t S[t] (QP ap);rw[bM S t ap]at q3;exact⟨hs.cell t _ (zY a t (by rw[HL.out];omega)),hs.out,by rw[aa hj.d];rfl,ae hj.d,gs,e3,a5,s0,hb,q3⟩
     have y:=hI (bT.out t af);have ac:=hI (KC T S a t);have J:=hI (KI T S u a t);rw[<-br.out]at ac;rw[<-bw.out]at J;have bj:Hid (Qv S a t=(a.getD t false&&((au S t).k.toList == [36,97]))):=rfl;have R:Hid (PY S u a t=(a.getD t false&&(((au S t).k.toList == [36,112]) && !fR u t))):=rfl;obtain⟨sd,Y⟩:∃sd,Hid (fR u t=sd):=⟨_,rfl⟩
     rw[Y.out]at y R;obtain⟨bf,Hx⟩:∃bf,Hid (bG T (au S t)=bf):=⟨_,rfl⟩
     rw[Hx.out]at ch ac J;generalize (au S t).k=sk at *;generalize a.getD t false=ib at *;obtain⟨-,-,v2,b4,-⟩:=G.out wr ar.out.kept
     go_upto_region 23 with (go_at_call 87;refine QU ch.out ?_;rintro e w2 ⟨rfl,k2⟩)
     have X:=hI k2;clear k2 v2 b4;have b6:=hI (y.out w2 (cf.out.trans X.out))
     go_upto_region 24 with (go_at_call 66;refine QU b6.out ?_;rintro e w3 ⟨rfl,C⟩;rw[C];clear C)
     have N:=hI (ar.out.Vb X.out);have Q:=hI (b3.out.Vb X.out);obtain⟨y0,y1,y2,y3,gs,rfl,a5,s0,cy,q3⟩:=G.out w2 N.out.kept;have d5:(t:Int)<(S.length:Int):=by omega
     have cx:(t:Int)<(w:Int)+1:=by omega
     have c2:(0:Int)<=(t:Int):=by omega
     cases ib
     ·have M:Hid (A=MV T S a (t+1)):=by show _=_;rw[ac.out,bj.out];simp
      have F:Hid (B=DK T S u a (t+1)):=by show _=_;rw[J.out,R.out];simp
      go_wp2
      go_roundg (w+1-(t+1))
      case measure=>omega
      case rel=>exact⟨t+1,U,V,A,B,by omega,rfl,rfl,rfl,by go_num,⟨by omega,by omega⟩,M,F,N,Q,ad⟩
     ·cases aS:(sk.toList == [36,97])
      ·have M:Hid (A=MV T S a (t+1)):=by show _=_;rw[ac.out,bj.out,aS];simp
       cases ai:(sk.toList == [36,112])
       ·have F:Hid (B=DK T S u a (t+1)):=by show _=_;rw[J.out,R.out,ai];simp
        go_wp2
        go_roundg (w+1-(t+1))
        case measure=>omega
        case rel=>exact⟨t+1,U,V,A,B,by omega,rfl,rfl,rfl,by go_num,⟨by omega,by omega⟩,M,F,N,Q,ad⟩
       ·cases sd
        ·have F:Hid (B++[bf]=DK T S u a (t+1)):=by show _=_;rw[J.out,R.out,ai];simp
         have a4:=Q.out.own;have az:(aB B).n<=900000000:=by show B.length<=_;omega
         go_wp2_with (at_builtin;refine bN _ rfl (.tmp 136) (.tmp 138) 61 rfl iS (.string ⟨#[]⟩) 16 V (aB B) [.string bf] underlying61 cq ba a7 a6 rfl Rc rfl a4 az (by omega) rfl rfl (by simp[Value.oneCell']) ?_;intro h5 w5 K al;rw[dr]at K;have I:=hI (gw.two Q.out N.out (fun k Z hq=>ad.out k hq Z) al K);clear K al)
         go_roundg (w+1-(t+1))
         case measure=>omega
         case rel=>exact⟨t+1,U,h5,A,B++[bf],by omega,rfl,rfl,by simp[aB],by go_num,⟨by omega,by simp;omega⟩,M,F,I.out.2.1,I.out.1,(fun k Z hq=>I.out.2.2 k hq Z)⟩
        ·have F:Hid (B=DK T S u a (t+1)):=by show _=_;rw[J.out,R.out,ai];simp
         go_wp2
         go_roundg (w+1-(t+1))
         case measure=>omega
         case rel=>exact⟨t+1,U,V,A,B,by omega,rfl,rfl,rfl,by go_num,⟨by omega,by omega⟩,M,F,N,Q,ad⟩
      ·have ai:=Gr _ aS
       have M:Hid (A++[bf]=MV T S a (t+1)):=by show _=_;rw[ac.out,bj.out,aS];simp
       have F:Hid (B=DK T S u a (t+1)):=by show _=_;rw[J.out,R.out,ai];simp
       have a4:=N.out.own;have az:(aB A).n<=900000000:=by show A.length<=_;omega
       go_upto_region 26 with (at_builtin;refine bN _ rfl (.tmp 110) (.tmp 112) 61 rfl iS (.string ⟨#[]⟩) 16 U (aB A) [.string bf] underlying61 cq ba a7 a6 rfl Rc rfl a4 az (by omega) rfl rfl (by simp[Value.oneCell']) ?_;intro h5 w5 K al;rw[dr]at K;have I:=hI (gw.two N.out Q.out ad.out al K);clear K al)
       obtain⟨z0,z1,z2,z3,dt,ez,dl,z4,z5,z6⟩:=G.out w5 I.out.1.kept
       cases ez
       clear y0 y1 y2 y3 a5 s0 cy q3 a4 az;go_wp2
       go_roundg (w+1-(t+1))
       case measure=>omega
       case rel=>exact⟨t+1,h5,V,A++[bf],B,by omega,rfl,by simp[aB],rfl,by go_num,⟨by simp;omega,by omega⟩,M,F,I.out.1,I.out.2.1,I.out.2.2⟩
    ·have et:t=w+1:=by omega
     subst et;have bo:¬(w:Int)+1<=(w:Int):=by omega
     go_wp2;go_ret2;exact⟨a,U,V,cX.out,by rw[<-br.out,<-bw.out];rfl,by rw[<-br.out];exact ar.out.base E.out,by rw[<-bw.out];exact b3.out.base E.out⟩
  ·obtain⟨c,Hc⟩:∃c,Hid (aQ a=c):=⟨_,rfl⟩
   rw[Hc.out]at hg;have hg:_=2*c+1:=hg;have b5:Hid (aQ a<=c):=by show _<=_;rw[Hc.out];omega
   clear bp;go_wp2
   go_loopg [7,8] (w+1) (fun g2 ag tv wr=>∃(t:Nat) (b:Bool) (a:List Bool),t<=w+1/\g2=w+1-t/\ag=.bool b/\tv=.int .i64 t/\Hid (aQ a<=c/\(b=true->aQ a<c))/\Hid (b=false->∀D,D<t->vy o u a D)/\Hid (vC o u w a)/\Hid (jy wr v.heap.size a)/\Hid (ab [] v wr))
   case atStart=>exact⟨0,false,a,by omega,rfl,rfl,rfl,⟨b5.out,fun h=>by cases h⟩,(fun _ t ht=>absurd ht (T0 t)),l,f,E⟩
   case round =>
    clear b5 l f E Hc;obtain⟨t,b,a,ht,c7,rfl,rfl,HC,HT,l,f,E⟩:=hrel
    by_cases af:t<=w
    ·have bo:(t:Int)<=(w:Int):=by omega
     have y:=hI (bT.out t af wr E.out);have y0:=jy.cell f.out t _ (zY a t (by rw[l.out.len];omega));have y1:=jy.out f.out;obtain⟨sd,Y⟩:∃sd,Hid (fR u t=sd):=⟨_,rfl⟩
     rw[Y.out]at y;obtain⟨ib,L⟩:∃ib,Hid (a.getD t false=ib):=⟨_,rfl⟩
     rw[L.out]at y0;have c2:(0:Int)<=(t:Int):=by omega
     have cx:(t:Int)<(w:Int)+1:=by omega
     have bl:Hid (vy o u a t->b=false->∀D,D<t+1->vy o u a D):=fun hc h D cL=>by
      by_cases e:D=t
      ·rw[e];exact hc
      ·exact HT.out h D (by omega)
     cases ib
     ·have HM:=hI (bl.out (fun h=>by rw[L.out]at h;cases h))
      go_wp2_with (go_at_call 66;refine QU y.out ?_;rintro e w3 ⟨rfl,C⟩;rw[C];clear C)
      go_roundg (w+1-(t+1))
      case measure=>omega
      case rel=>exact⟨t+1,b,a,by omega,rfl,rfl,by go_num,HC,HM,l,f,E⟩
     ·cases sd
      ·have HM:=hI (bl.out (fun _ h=>by rw[Y.out]at h;cases h))
       go_wp2_with (go_at_call 66;refine QU y.out ?_;rintro e w3 ⟨rfl,C⟩;rw[C];clear C)
       go_roundg (w+1-(t+1))
       case measure=>omega
       case rel=>exact⟨t+1,b,a,by omega,rfl,rfl,by go_num,HC,HM,l,f,E⟩
      ·have cH:=hI (l.out.sub t L.out)
       obtain⟨cb,a3⟩:=cV.out t af;have a3:=hI a3;have d4:(t:Int)<(o.length:Int):=by omega
       have G:Hid (∀z:World,ab [] v z->∃gP,a0=some ⟨gP,0,none⟩/\gP<z.heap.size/\z.cell? ⟨i,3,none⟩=some (.slice a0 o.length cP)/\i<z.heap.size/\z.cell? ⟨gP,t*5,none⟩=some (.slice (lr o t).2.ao (lr o t).1.st.length (lr o t).2.cap)/\cm z (lr o t).2.ao 6 kV (lr o t).1.st):=fun z kw=>by
        have hj:=Om.Vb HJ.out kw;obtain⟨gP,e,b2,cc⟩:=hj.p t _ (As o t (by omega));exact⟨gP,e,b2,by rw[aa hj.d];rfl,ae hj.d,cc 0 _ rfl,hj.q _ (R4 (As o t (by omega)))⟩
       have bc:Hid (∀a:List Bool,(∀m,m<(lr o t).1.st.length->∀k:Nat,(bO (lr o t).1.st m).ref=(k:Int)->a.getD k false=true)->vy o u a t):=fun _ h _ _=>h
       have be:Hid (∀m,m<(lr o t).1.st.length->∀k:Nat,(bO (lr o t).1.st m).ref=(k:Int)->jp o u w k):=fun m hi k he=>jp.step cH.out Y.out hi he
       have an:Hid (b=false->(∀D,D<t->vy o u a D)/\∀m,m<0->∀k:Nat,(bO (lr o t).1.st m).ref=(k:Int)->a.getD k false=true):=fun h=>⟨HT.out h,fun m hi=>by omega⟩
       obtain⟨H,c1⟩:∃H,Hid ((lr o t).1.st=H):=⟨_,rfl⟩
       obtain⟨hd,cB⟩:∃hd,Hid ((lr o t).2=hd):=⟨_,rfl⟩
       rw[c1.out]at G bc be an cb a3;rw[cB.out]at G;obtain⟨c4,dp⟩:=hd;simp only at G;go_wp2_with (go_at_call 66;refine QU y.out ?_;rintro e w3 ⟨rfl,C⟩;rw[C];clear C)
       go_loopg [7,10] H.length (fun g3 ag iv wr=>∃(m:Nat) (b:Bool) (a:List Bool),m<=H.length/\g3=H.length-m/\ag=.bool b/\iv=.int .i64 m/\Hid (aQ a<=c/\(b=true->aQ a<c))/\Hid (b=false->(∀D,D<t->vy o u a D)/\∀i',i'<m->∀k:Nat,(bO H i').ref=(k:Int)->a.getD k false=true)/\Hid (vC o u w a)/\Hid (jy wr v.heap.size a)/\Hid (ab [] v wr))
       case atStart=>exact⟨0,b,a,by omega,rfl,rfl,rfl,HC,an,l,f,E⟩
       case round =>
        clear HC an HT l f E bl y0 y1 L y;obtain⟨m,b,a,hi,dz,rfl,rfl,HC,HT,l,f,E⟩:=hrel;obtain⟨gP,rfl,b2,v3,b4,p0,bg⟩:=G.out wr E.out
        by_cases bv:m<H.length
        ·have dT:(m:Int)<(H.length:Int):=by omega
         obtain⟨gs,es,a5,cs⟩:=bg m _ (GO H m bv);replace es:c4=some ⟨gs,0,none⟩:=es;subst es;have s0:wr.cell? ⟨gs,m*6,none⟩=some (.int .i64 (bO H m).ref):=cs 0 _ rfl;have df:=hI (a3.out m bv);have cu:=hI (be.out m bv)
         have ca:Hid (b=false->(∀k:Nat,(bO H m).ref=(k:Int)->a.getD k false=true)->(∀D,D<t->vy o u a D)/\∀i',i'<m+1->∀k:Nat,(bO H i').ref=(k:Int)->a.getD k false=true):=fun h Z=>⟨(HT.out h).1,fun i' d0 k he=>by
          by_cases e:i'=m
          ·subst e;exact Z k he
          ·exact(HT.out h).2 i' (by omega) k he⟩
         generalize (bO H m).ref=r at *;clear cs bg;have d8:(0:Int)<=(m:Int):=by omega
         by_cases cz:(0:Int)<=r
         ·obtain⟨k,rfl⟩:=Int.eq_ofNat_of_zero_le cz
          have aS:k<=w:=by have:=df.out;omega
          have ea:(k:Int)<(w:Int)+1:=by omega
          have y0:=jy.cell f.out k _ (zY a k (by rw[l.out.len];omega));have y1:=jy.out f.out;have ck:=hI (zY a k (by rw[l.out.len];omega));obtain⟨ib,L⟩:∃ib,Hid (a.getD k false=ib):=⟨_,rfl⟩
          rw[L.out]at y0 ck;have dv:(0:Int)<=(k:Int):=by omega
          cases ib
          ·have HU:=hI (lC a k ck.out)
           have a1:Hid (aQ (a.set k true)<c):=by
            have U:=HU.out;have V:=HC.out.1
            show _<_
            omega
           have db:=hI (vC.set l.out (cu.out k rfl));obtain⟨W3,bs⟩:∃W3,Hid (wr.setCell ⟨v.heap.size,k,none⟩ (.bool true)=W3):=⟨_,rfl⟩
           have ct:Hid (jy W3 v.heap.size (a.set k true)):=by show jy _ _ _;rw[<-bs.out];exact jy.set f.out k
           have X:Hid (ab [] v W3):=by show ab [] v W3;rw[<-bs.out];exact E.out.setCell (QV (by simp)) _
           have f0:=am f.out k
           go_upto_region 17 with fail
           rw[bs.out];go_wp2
           go_roundg (H.length-(m+1))
           case measure=>omega
           case rel=>exact⟨m+1,true,a.set k true,by omega,rfl,rfl,by go_num,⟨RM a1.out,fun _=>a1.out⟩,(fun h=>by cases h),db,ct,X⟩
          ·have HM:=hI (fun h=>ca.out h (fun q hq=>by rw[show q=k by omega];exact L.out))
           go_wp2
           go_roundg (H.length-(m+1))
           case measure=>omega
           case rel=>exact⟨m+1,b,a,by omega,rfl,rfl,by go_num,HC,HM,l,f,E⟩
         ·have HM:=hI (fun h=>ca.out h (fun q hq=>absurd hq (by omega)))
          go_wp2
          go_roundg (H.length-(m+1))
          case measure=>omega
          case rel=>exact⟨m+1,b,a,by omega,rfl,rfl,by go_num,HC,HM,l,f,E⟩
        ·have ei:m=H.length:=by omega
         subst ei
         have HM:Hid (b=false->∀D,D<t+1->vy o u a D):=fun h D cL=>by
          by_cases e:D=t
          ·rw[e];exact bc.out a (HT.out h).2
          ·exact(HT.out h).1 D (by omega)
         clear bg;go_wp2
         go_roundg (w+1-(t+1))
         case measure=>omega
         case rel=>exact⟨t+1,b,a,by omega,rfl,rfl,by go_num,HC,HM,l,f,E⟩
    ·have et:t=w+1:=by omega
     subst et;have bo:¬(w:Int)+1<=(w:Int):=by omega
     have HM:Hid (b=false->∀t,t<=w->vy o u a t):=fun h t ht=>HT.out h t (by omega)
     have d7:=HC.out.1;have a1:=hI HC.out.2;go_wp2
     go_roundg (2*aQ a+(if b=true then 1 else 0))
     case measure =>
      cases b
      ·rw[QT (by simp)];omega
      ·have:=a1.out rfl
       rw[QW rfl];omega
     case rel=>exact⟨b,a,rfl,rfl,l,HM,f,E⟩
theorem OW:(prog.info? 122).map (fun i=>(i.zero,i.size,i.bytes))=some (some (.agg #[.slice none 0 0,.int .i64 0,.string ⟨#[]⟩,.int .i64 0,.int .i64 0]),5,64):=by kernel_rfl
theorem Gp:(prog.info? 38).map (fun i=>(i.zero,i.size,i.bytes))=some (some (.agg #[.string ⟨#[]⟩,.int .i64 0,.int .i64 0,.string ⟨#[]⟩,.int .i64 0,.int .i64 0]),6,64):=by kernel_rfl
theorem pV:(⟨(fP M).e,(fP M).size,(fP M).n+1,(fP M).xs++NS y4⟩:dN)=fP (M++[y4]):=gM _ _ _ _ _
theorem rL(x:ik):(⟨(fM a).e,(fM a).size,(fM a).n+1,(fM a).xs++jJ x⟩:dN)=fM (a++[x]):=gM _ _ _ _ _
theorem cm.keptS{α:Type}{d:α->List Value}{L:List α}{S:List Nat}(h:cm l zt b d L)(k:ab S l f)(o:∀g,zt=some ⟨g,0,none⟩->g∉S):cm f zt b d L:=fun j x n=>by
 obtain⟨g,e,a,c⟩:=h j x n;exact⟨g,e,QX a k.size,fun i u m=>by rw[Q6 (k.block g a (o g e))];exact c i u m⟩
def Kl(w:World)(h1 h2:Hd)(x:jS×Hd):Prop:=∀g,x.2.ao=some ⟨g,0,none⟩->w.heap.size<=g/\h1.blk≠some g/\h2.blk≠some g
structure vD(w wr:World)(v b:Nat)(x0 x1:Value)(PS:List (jS×Hd))(h1:Hd)(RS:List ik)(h2:Hd):Prop where
 d:wr.heap[v]?=some (.cells #[x0,x1,.pointer (some ⟨b,0,none⟩),.slice h1.ao PS.length h1.cap,.slice h2.ao RS.length h2.cap] 85 (0,0))
 lt:v<w.heap.size
 o1:aw wr h1 (fP PS)
 o2:aw wr h2 (fM RS)
 f1:∀k,h1.blk=some k->w.heap.size<=k
 f2:∀k,h2.blk=some k->w.heap.size<=k
 ap:∀k,h1.blk=some k->h2.blk≠some k
 kept:ab [v] w wr
 q:∀x∈PS,cm wr x.2.ao 6 kV x.1.st/\Kl w h1 h2 x
 ql:∀x∈PS,∀g,x.2.ao=some ⟨g,0,none⟩->g<wr.heap.size
variable {w wr w':World} {v b:Nat} {x0 x1:Value} {PS:List (jS×Hd)} {h1 h1':Hd} {RS:List ik} {h2 h2':Hd}
theorem oB(k:ab [] l f):ab [b] l f:=k.mono (by simp)
theorem vD.Vb(a:vD w wr v b x0 x1 PS h1 RS h2)(k:ab [] wr w'):vD w w' v b x0 x1 PS h1 RS h2 :=
 ⟨k.get a.d (by simp),a.lt,a.o1.Vb k,a.o2.Vb k,a.f1,a.f2,a.ap,a.kept.trans (oB k),fun x c=>⟨(a.q x c).1.Vb k,(a.q x c).2⟩,fun x c g e=>QX (a.ql x c g e) k.size⟩
theorem vD.jds(a:vD w wr v b x0 x1 PS h1 RS h2):Om wr v b x0 x1 PS h1.ao h1.cap RS h2.ao h2.cap :=
 ⟨a.d,a.o1.srcG NT,fun x c=>(a.q x c).1,a.o2.srcG xf⟩
theorem tK(e:T.ao=some ⟨b,0,none⟩):T.blk=some b:=by unfold Hd.blk;rw[e];rfl
theorem vD.addP(a:vD w wr v b x0 x1 PS i RS l)(x:jS×Hd)(I:cm wr x.2.ao 6 kV x.1.st)(H:Kl w i l x)(z:∀g,x.2.ao=some ⟨g,0,none⟩->g<wr.heap.size)(g:bt wr w' i h1')(o:aw w' h1' (fP (PS++[x])))(m:Nat)(C:m=PS.length+1) :
  vD w (w'.setCell ⟨v,3,none⟩ (.slice h1'.ao m h1'.cap)) v b x0 x1 (PS++[x]) h1' RS l:=by
 have A:v∉i.blk.toList:=fun c=>by have:=a.f1 _ (aN c);have:=a.lt;omega
 have G:=g.kept.get a.d A;have D:v<wr.heap.size:=ae a.d;have t:ab [v] w' (w'.setCell ⟨v,3,none⟩ (.slice h1'.ao m h1'.cap)):=(ab.refl _ _).setCell (Q1 (by simp)) _
 have p:∀k,h1'.blk=some k->w.heap.size<=k:=fun k f=>by
  rcases g.blk with e | ⟨q,e,c⟩
  ·exact a.f1 k (by rw[<-e];exact f)
  ·rw[f]at e;cases e;exact Q3 a.kept.size c
 have j:∀y∈PS++[x],cm wr y.2.ao 6 kV y.1.st/\Kl w i l y/\∀g,y.2.ao=some ⟨g,0,none⟩->g<wr.heap.size:=fun y s=>by
  rcases Rr.1 s with h | h
  ·exact⟨(a.q y h).1,(a.q y h).2,a.ql y h⟩
  ·rw[Q9]at h;subst h;exact⟨I,H,z⟩
 refine⟨?_,a.lt,?_,?_,p,a.f2,?_,?_,?_,?_⟩
 ·rw[ah G 3]
  congr 2
  rw[C,Q0];rfl
 ·exact o.Vk (fun k f e=>by have:=p k f;have:=a.lt;omega) _ _
 ·exact(g.beside a.o2 (fun k f c=>a.ap k c f)).Vk (fun k f e=>by have:=a.f2 k f;have:=a.lt;omega) _ _
 ·intro k f c
  rcases g.blk with e | ⟨q,e,z⟩
  ·exact a.ap k (by rw[<-e];exact f) c
  ·have:=a.o2.lt c
   rw[f]at e;cases e;omega
 ·refine⟨g.kept.os.trans a.kept.os,g.kept.tape.trans a.kept.tape,g.kept.output.trans a.kept.output,?_,fun k f B=>?_⟩
  ·exact Q3 (Q3 a.kept.size g.kept.size) t.size
  ·have i:=a.kept.size
   have l:=g.kept.size;rw[t.block k (by omega) B,g.kept.block k (by omega) (fun c=>by have:=a.f1 _ (aN c);omega),a.kept.block k f B]
 ·intro y s
  obtain⟨E,n,F⟩:=j y s;refine⟨(E.keptS g.kept (fun q e c=>(n q e).2.1 (aN c))).keptS t (fun q e c=>?_),fun q e=>⟨(n q e).1,fun c=>?_,(n q e).2.2⟩⟩
  ·have:=(n q e).1
   have:=a.lt;simp at c;omega
  ·rcases g.blk with u | ⟨r,u,z⟩
   ·exact(n q e).2.1 (by rw[<-u];exact c)
   ·have:=F q e
    rw[c]at u;cases u;omega
 ·intro y s q e
  have i:=(j y s).2.2 q e;have l:=g.kept.size;have J:=t.size;omega
theorem vD.addR(a:vD w wr v b x0 x1 PS s RS l)(x:ik)(g:bt wr w' l h2')(o:aw w' h2' (fM (RS++[x])))(m:Nat)(A:m=RS.length+1) :
  vD w (w'.setCell ⟨v,4,none⟩ (.slice h2'.ao m h2'.cap)) v b x0 x1 PS s (RS++[x]) h2':=by
 have t:v∉l.blk.toList:=fun c=>by have:=a.f2 _ (aN c);have:=a.lt;omega
 have E:=g.kept.get a.d t;have B:v<wr.heap.size:=ae a.d;have j:ab [v] w' (w'.setCell ⟨v,4,none⟩ (.slice h2'.ao m h2'.cap)):=(ab.refl _ _).setCell (Q1 (by simp)) _
 have i:∀k,h2'.blk=some k->w.heap.size<=k:=fun k f=>by
  rcases g.blk with e | ⟨q,e,c⟩
  ·exact a.f2 k (by rw[<-e];exact f)
  ·rw[f]at e;cases e;exact Q3 a.kept.size c
 refine⟨?_,a.lt,?_,?_,a.f1,i,?_,?_,?_,?_⟩
 ·rw[ah E 4]
  congr 2
  rw[A,Q0];rfl
 ·exact(g.beside a.o1 (fun k f c=>a.ap k f c)).Vk (fun k f e=>by have:=a.f1 k f;have:=a.lt;omega) _ _
 ·exact o.Vk (fun k f e=>by have:=i k f;have:=a.lt;omega) _ _
 ·intro k f c
  rcases g.blk with e | ⟨q,e,z⟩
  ·exact a.ap k f (by rw[<-e];exact c)
  ·have:=a.o1.lt f
   rw[c]at e;cases e;omega
 ·refine⟨g.kept.os.trans a.kept.os,g.kept.tape.trans a.kept.tape,g.kept.output.trans a.kept.output,?_,fun k f u=>?_⟩
  ·exact Q3 (Q3 a.kept.size g.kept.size) j.size
  ·have s:=a.kept.size
   have l:=g.kept.size;rw[j.block k (by omega) u,g.kept.block k (by omega) (fun c=>by have:=a.f2 _ (aN c);omega),a.kept.block k f u]
 ·intro y p
  obtain⟨C,h⟩:=a.q y p;have D:=a.ql y p;refine⟨(C.keptS g.kept (fun q e c=>(h q e).2.2 (aN c))).keptS j (fun q e c=>?_),fun q e=>⟨(h q e).1,(h q e).2.1,fun c=>?_⟩⟩
  ·have:=(h q e).1
   have:=a.lt;simp at c;omega
  ·rcases g.blk with n | ⟨r,n,z⟩
   ·exact(h q e).2.2 (by rw[<-n];exact c)
   ·have:=D q e
    rw[c]at n;cases n;omega
 ·intro y p q e
  have s:=a.ql y p q e;have l:=g.kept.size;have F:=j.size;omega
theorem Ps(a:List ik)(k:Nat)(h:k<a.length)(u:Int):(a.flatMap jJ).set (k*6+1) (.int .i64 u)=(a.set k { ff a k with Vc:=u }).flatMap jJ:=by
 induction a generalizing k with
 | nil=>simp at h
 | cons r a c =>
  cases k with
  | zero=>rfl
  | succ k =>
   have e:(k+1)*6+1=6+(k*6+1):=by omega
   have b:ff (r :: a) (k+1)=ff a k:=rfl;rw[b,SB,RI,RI,<-c k (by simpa using h),e,SS _ _ (by rw[xf];omega),xf]
   congr 2
   omega
theorem vD.put(a:vD w wr v b x0 x1 PS h1 RS h2)(i:h2.ao=some ⟨b,0,none⟩)(k:Nat)(o:k<RS.length)(u:Int):vD w (wr.setCell ⟨b,k*6+1,none⟩ (.int .i64 u)) v b x0 x1 PS h1 (RS.set k { ff RS k with Vc:=u }) h2:=by
 have h:=tK i;have p:=a.f2 b h;have j:=a.o2.lt h;have r:=a.lt;have c:ab [b] wr (wr.setCell ⟨b,k*6+1,none⟩ (.int .i64 u)):=(ab.refl _ _).setCell (Q1 (by simp)) _;refine⟨?_,a.lt,?_,?_,a.f1,a.f2,a.ap,?_,?_,?_⟩
 ·rw[c.get a.d (by simp;omega),Rv]
 ·exact a.o1.Vk (fun q f e=>a.ap q f (by rw[e];exact h)) _ _
 ·have:=a.o2.putAt i (k*6+1) (.int .i64 u)
  have e:(⟨(fM RS).e,(fM RS).size,(fM RS).n,(fM RS).xs.set (k*6+1) (.int .i64 u)⟩:dN)=fM (RS.set k { ff RS k with Vc:=u }):=by
   show(⟨_,_,RS.length,(RS.flatMap jJ).set (k*6+1) (.int .i64 u)⟩:dN)=_
   rw[Ps RS k o u];unfold fM kU;rw[Rv]
  rw[e]at this;exact this
 ·exact⟨c.os.trans a.kept.os,c.tape.trans a.kept.tape,c.output.trans a.kept.output,Q3 a.kept.size c.size,fun q f m=>by
   have:=a.kept.size;rw[c.block q (by omega) (by simp;omega),a.kept.block q f m]⟩
 ·intro y g
  exact⟨(a.q y g).1.keptS c (fun q e f=>by simp at f;subst f;exact((a.q y g).2 q e).2.2 h),(a.q y g).2⟩
 ·intro y g q e
  exact QX (a.ql y g q e) c.size
end Go.Proofs.YtpddjjabfbfifaaGreat
