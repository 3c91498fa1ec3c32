import Derived.BigQuiet
import Derived.Test.YtnbhnocdhbcbcaaGreatU06
namespace Go.Proofs.YtnbhnocdhbcbcaaGreat
open Go.RowKit Tryz
open Value IntKind Ending
set_option maxHeartbeats 0
variable{T i yd:World}{z2 z5:Hd}{m:Xt}{z7:Xv}{yf:Xs}{n a y6:Nat}{I:List St}{y:Nat->Hd}{z6:List Bool}{ya:Nat->Prop}{z0:List Value}{z3:Nat->ew}(M o b:Nat)(S:Xt)(N:List Bool)(D:St)(y5 g:Hd)(w:List St)(d:Nat->Hd)(L:Hd)(l:Xt)(x:Xv)(zt:List Bool)(y7:Value)(v H:Nat)(z4:Xs)(f:World)(y9:Xt)
def lj(w:World)(h:Hd)(l:Xt):Prop :=
 l=[]∨∃g off cur t,h.ao=some ⟨g,off,none⟩/\w.heap[g]?=some (.cells cur t)/\(∀j x,l[j]?=some x->cur[off+j]?=some (string x))/\l.length<=h.cap/\h.cap<=9223372036854775807
theorem aB.view(o:aB T z2 (aD m)):lj T z2 m:=by
 rcases o.Ys with ⟨_,k,_⟩ | ⟨g,a,d,e,f,c,n,i⟩
 ·exact Us (UI k)
 ·refine Uo ⟨g,0,a,_,d,e,?_,f,by unfold maxLen at c;exact c⟩;intro j x l;have b:a.toList.take (m.length*1)=dm m:=i;have:(dm m)[j]?=some (string x):=by simp[dm,l]
  rw[<-b,Wu]at this;rw[V3];simp at this;exact this.2
theorem lj.Yu(v:lj T z2 m)(k:ae z7 T i)(f:∀x,z2.Yv=some x->x∉z7):lj i z2 m:=by
 rcases v with v | ⟨g,b,a,t,c,d,e⟩
 ·exact Us v
 ·exact Uo ⟨g,b,a,t,c,k.get d (f g (by unfold Hd.Yv;rw[c];rfl)),e⟩
theorem lj.Yh(v:lj T z2 m)(k:ae [] T i):lj i z2 m:=v.Yu k (by simp)
theorem rL{b:Xs}(h:yf=b):Ending.returned (string yf)=returned (string b):=by rw[h]
theorem M7(u:lj f L l)(s:l.length<=1073741824) :
  Calls prog 219 #[slice L.ao l.length L.cap,string z4] f fun e v=>e=returned (bool (aJ l z4))/\v=f:=by
 obtain⟨w,p⟩:=L;rcases u with rfl | ⟨g,d,q,t,m,r,j,y,z⟩
 ·clear s;go_enter func219,ntmps219;go_wp2;refine Wd 1 ?_;rw[Wt];go_wp2;go_ret;exact⟨rfl,rfl⟩
 ·simp only at m;subst m;go_enter func219,ntmps219;go_wp2
  go_loopg [5] l.length (fun g i wr=>∃k:Nat,k<=l.length/\g=l.length-k/\i=int i64 k/\Xr (aJ l z4=aJ (l.drop k) z4)/\wr=f)
  ·exact⟨0,by omega,by omega,rfl,rfl,rfl⟩
  obtain⟨k,B,A,rfl,b,rfl⟩:=hrel;by_cases a:k<l.length
  ·have x:wr.cell? ⟨g,d+k,none⟩=some (string l[k]):=(ah r (d+k)).trans (j k l[k] (Ub a));cases n:((l[k]).toList==z4.toList)
   ·have c:Xr (aJ l z4=aJ (l.drop (k+1)) z4):=DF l z4 k a b.o n;clear b j;go_wp2;go_roundg (l.length-(k+1))
    ·exact⟨k+1,by omega,rfl,by go_num,c,rfl⟩
    omega
   ·have c:Xr (aJ l z4=true):=IR l z4 k a b.o n;clear b j;go_wp2;go_ret;exact⟨aE c.o.symm,rfl⟩
  ·have c:Xr (aJ l z4=false):=DG l z4 k a b.o;clear b j;go_wp2;go_ret;exact⟨aE c.o.symm,rfl⟩
def ji(s:St):Xs:=s.Yc.getD 0 ⟨#[]⟩
def aL(s:St):Xs:=if(s.Yw==2)=true/\2<=s.Yc.length then s.Yc.getD 1 ⟨#[]⟩ else⟨#[]⟩
theorem wT(h:H<l.length):l.getD H ⟨#[]⟩=l[H]:=by rw[Uc,Ub h];rfl
theorem Cy(u:lj f g D.Yc)(s:D.Yc.length<=1073741824) :
  Calls prog 192 #[eW D g L] f fun e v=>e=returned (string (ji D))/\ae [] f v:=by
 unfold eW;obtain⟨w,n⟩:=g;rcases u with i | ⟨q,c,p,t,k,l,m,y,z⟩
 ·have a:Xr (ji D=⟨#[]⟩):=by show _=_;unfold ji;rw[i];rfl
  rw[i];simp only[List.length_nil];clear s i;go_enter func192,ntmps192;go_wp2;go_ret;exact⟨rL a.o.symm,(ae.refl _ _).alloc _⟩
 ·simp only at k;subst k;by_cases d:D.Yc.length=0
  ·have j:((D.Yc.length:Int)==0)=true:=(by simp[d]);have a:Xr (ji D=⟨#[]⟩):=cM (by unfold ji;rw[UI d];rfl);clear d;go_enter func192,ntmps192;go_wp2;go_ret;exact⟨rL a.o.symm,(ae.refl _ _).alloc _⟩
  ·have j:((D.Yc.length:Int)==0)=false:=Uz.2 (by omega);have b:0<D.Yc.length:=(by omega);have a:Xr (ji D=D.Yc[0]):=wT _ _ b;have x:f.cell? ⟨q,c,none⟩=some (string D.Yc[0]):=(ah l c).trans (m 0 _ (Ub b));have r:=aj l;clear m d;go_enter func192,ntmps192;go_wp2;go_ret;exact⟨rL a.o.symm,(ae.refl _ _).alloc _⟩
theorem qi(s:lj f g D.Yc)(z:D.Yc.length<=1073741824) :
  Calls prog 190 #[eW D g L] f fun e u=>e=returned (string (aL D))/\ae [] f u:=by
 unfold eW;cases d:(D.Yw==2)
 ·have i:(D.Yw != 2)=true:=by simp[bne,d]
  have b:Xr (aL D=⟨#[]⟩):=cM (by unfold aL;rw[d];simp);go_enter func190,ntmps190;go_wp2;go_ret;exact⟨rL b.o.symm,(ae.refl _ _).alloc _⟩
 ·have i:(D.Yw != 2)=false:=by simp[bne,d]
  by_cases A:D.Yc.length<2
  ·have b:Xr (aL D=⟨#[]⟩):=(by show _=_;unfold aL;rw[Ud (by omega)]);go_enter func190,ntmps190;go_wp2;go_ret;exact⟨rL b.o.symm,(ae.refl _ _).alloc _⟩
  ·have a:1<D.Yc.length:=(by omega);obtain⟨v,m⟩:=g;rcases s with p | ⟨q,c,n,t,j,k,l,x,y⟩
   ·rw[p]at a;simp at a
   ·simp only at j;subst j;have b:Xr (aL D=D.Yc[1]):=cM (by unfold aL;rw[Uf ⟨d,by omega⟩];exact wT _ _ a);have w:f.cell? ⟨q,c+1,none⟩=some (string D.Yc[1]):=(ah k (c+1)).trans (l 1 _ (Ub a));have r:=aj k;clear l;go_enter func190,ntmps190;go_wp2;go_ret;exact⟨rL b.o.symm,(ae.refl _ _).alloc _⟩
def qP(s:St)(syms:Xt):Bool:=if(s.Yw==2)=true then aJ syms (aL s) else(s.Yw==3)
theorem wH(r:lj f y5 D.Yc)(k:lj f L l)(q:D.Yc.length<=1073741824)(i:l.length<=1073741824) :
  Calls prog 189 #[eW D y5 g,slice L.ao l.length L.cap] f fun e b=>e=returned (bool (qP D l))/\ae [] f b:=by
 have m:=fun(b:World) (j:lj b y5 D.Yc)=>qi D y5 g b j q;have a:Xr _:=m;unfold eW at a ⊢;clear m;cases p:(D.Yw==2)
 ·have c:Xr (qP D l=(D.Yw==3)):=by show _=_;unfold qP;rw[p];simp
  go_enter func189,ntmps189;go_wp2;go_ret;exact⟨aE (by rw[c.o]),(ae.refl _ _).alloc _⟩
 ·have c:Xr (qP D l=aJ l (aL D)):=by show _=_;unfold qP;rw[p];simp
  go_enter func189,ntmps189;go_wp2_with fail;refine(a.o _ (by exact r.Yh (bM.alloc _))).mono ?_;rintro e s ⟨rfl,d⟩;have n:=((ae.refl [] f).alloc _).trans d;go_wp2_with fail;refine(M7 L l _ _ (by exact k.Yh n) i).mono ?_;rintro e t ⟨rfl,rfl⟩;go_wp2;go_ret;exact⟨aE (by rw[c.o]),n⟩
section
structure j6(l:List St):Prop where
 len:l.length<=10000
 pos:∀i (h:i<l.length),0<l[i].Yc.length
 syms:∀i (h:i<l.length),l[i].Yc.length<=10000
 prfs:∀i (h:i<l.length),l[i].Yn.length<=10000
theorem ae.grown{b:Option Nat}(K:ae [] T i)(g:i.grownBy yd b)(c:∀k,b=some k->T.heap.size<=k):ae [] T yd :=
 ⟨g.os.trans K.os,g.tape.trans K.tape,g.output.trans K.output,Un K.size g.size,fun k a _=>(g.block k (Ul a K.size) (fun e=>by have:=c k e.symm;omega)).trans (K.block k a (by simp))⟩
theorem xO(k l c u:Int)(a j:Xs)(b g:Xu)(e d m i:Nat) :
  (Instr.field 158 (agg #[int i64 k,string a,slice b e d,slice g m i,string j,int i64 l,int i64 c,int i64 u]) 2).run prog f=.ok (slice b e d) f:=by kernel_rfl
attribute [local go_sem] xO
def BB(l:List St)(a n:Nat):Bool:=match l[n]? with | some s=>(s.Yw==3)&&fH l n a | none=>false
theorem Ry(h:H<w.length):BB w v H=((w[H].Yw==3)&&fH w H v):=by
 unfold BB;rw[Ub h]
def fC(l:List St)(a k:Nat):Xt:=symsAt l a++((List.range k).filter (BB l a)).flatMap (symsAt l)
def iu(l:List St)(a:Nat):Xt:=fC l a l.length
theorem px(h:H<w.length):symsAt w H=w[H].Yc:=by
 unfold symsAt;rw[Ub h]
theorem wm:fC w H 0=symsAt w H:=by unfold fC;rw[List.range_zero];rw[Xy,Xi,UE]
theorem zf(h:BB w v H=true):fC w v (H+1)=fC w v H++symsAt w H:=by
 unfold fC;rw[Vr,Vi];simp[h]
theorem vL(h:BB w v H=false):fC w v (H+1)=fC w v H:=by
 unfold fC;rw[Vr,Vi];simp[h]
theorem ze(k:Nat)(b:j6 w)(a:H<w.length)(f:k<=w.length):(fC w H k).length<=10000+k*10000:=by
 induction k with
 | zero =>
  have:=b.syms H a;have e:=congrArg List.length (wm w H);have c:=congrArg List.length (px w H a);omega
 | succ k d =>
  have:=d (by omega);cases h:BB w H k with
  | true =>
   have e:=congrArg List.length (zf w H k h);have c:=congrArg List.length (px w k (by omega));have:=b.syms k (by omega);rw[Uh]at e;omega
  | false =>
   have e:=congrArg List.length (vL w H k h);omega
set_option maxRecDepth 100000
theorem zO(h:fy f M o w d)(J:b<w.length)(K:j6 w) :
  Calls prog 187 #[pointer (some ⟨M,o,none⟩),int i64 b] f fun e w'=>∃m:Hd,e=returned (slice m.ao (iu w b).length m.cap)/\aB w' m (aD (iu w b))/\(∀k,m.Yv=some k->f.heap.size<=k)/\ae [] f w':=by
 obtain⟨i0,hi,W,X,Y⟩:=UC jN;have ai:=K.len;go_enter func187,ntmps187;go_wp2_with fail;refine(bC M o b w d _ h J).mono ?_;rintro e w1 ⟨rfl,v⟩;have h1:=h.Yh v;have O1:=h1.Yt.syms b w[b] (Ub J);have hp:=K.pos b J;have hm:=K.syms b J;rcases O1.Ys with ⟨_,h0,_⟩ | ⟨g1,af,e1,-⟩
 ·have:w[b].Yc.length=0:=h0;omega
 ·unfold eW;rw[e1];have l:Xr (∀j u,(dm w[b].Yc)[j]?=some u->w1.cell? ((⟨g1,0,none⟩:Addr).add j)=some u):=fun j u hj=>by rw[bS];exact O1.cell e1 j u hj
  have ES:Xr (fC w b 0=w[b].Yc):=cM (by rw[wm];exact px w b J);have HO:Xr (aB w1 ⟨none,0⟩ (aD [])):=Uj _ _ _ _;clear O1;go_wp2_with (at_builtin;refine aN _ rfl (.tmp 8) (.tmp 12) 61 rfl i0 (string ⟨#[]⟩) 16 ⟨none,0⟩ (aD []) underlying61 hi W X Y rfl UA rfl HO.o ⟨g1,0,none⟩ w[b].Yc.length (d (10+2*b)).cap (dm w[b].Yc) rfl ?c0 l.o (mQ _) hp ?c3 ?c4 ?_)
  case c0=>simp[dm,aD]
  case c3=>simp only[aD,List.length_nil];unfold maxLen;omega
  case c4=>simp only[aD,List.length_nil];omega
  intro g O w2 G T p;rw[rN [] w[b].Yc,Wz,<-ES.o]at G;have R:ae [] f w2:=v.grown T (by simp[Hd.Yv]);have al:f.heap.size<=g:=by
   rcases p with e | e
   ·simp[Hd.Yv]at e
   ·exact Un v.size e
  have s:Xr ((aD []).n+w[b].Yc.length=(fC w b 0).length):=cM (by rw[ES.o];simp[aD]);rw[s.o];clear l HO T p h1 v e1 hp hm s ES;go_wp2
  go_loopg [5,6] w.length (fun gk sv i wr=>∃(k:Nat) (m:Hd),k<=w.length/\gk=w.length-k/\i=int i64 k/\sv=slice m.ao (fC w b k).length m.cap/\aB wr m (aD (fC w b k))/\(∀x,m.Yv=some x->f.heap.size<=x)/\ae [] f wr)
  ·exact⟨0,⟨some ⟨g,0,none⟩,O⟩,by omega,by omega,rfl,rfl,G,by intro x H;simp[Hd.Yv]at H;omega,R⟩
  obtain⟨k,m,hk,hg,rfl,rfl,I,S,Q⟩:=hrel;have A:=h.Yh Q;clear G R;by_cases a:k<w.length
  ·have ar:=ze w b k K J (by omega);have q:Xr _:=Ry w b k a;have ap:=K.syms k a;have ad:=K.pos k a;have B:=A.Yt.syms k w[k] (Ub a);rcases B.Ys with ⟨_,h0,_⟩ | ⟨C,ag,ek,-⟩
   ·have:w[k].Yc.length=0:=h0;omega
   ·have SY:Xr (symsAt w k=w[k].Yc):=px w k a;cases U:(w[k].Yw==3)
    ·have y:Xr (fC w b (k+1)=fC w b k):=vL w b k (by rw[q.o,U];rfl);clear q B;go_wp2_with (first | (go_at_call 81;refine(fF M o w d _ (by exact A)).mono ?_;rintro e w3 ⟨rfl,rfl⟩) | (go_at_call 98;refine(bC M o k w d _ (by exact A) a).mono ?_;rintro e w3 ⟨rfl,r⟩;unfold eW));go_roundg (w.length-(k+1))
     ·exact⟨k+1,m,by omega,rfl,by go_num,by rw[y.o],by rw[y.o];exact I.Ym (fun x H=>(r.trans (bM.alloc _)).block x (I.lt H) (by simp)),S,(Q.trans r).alloc _⟩
     omega
    ·go_wp2_with (first | (go_at_call 81;refine(fF M o w d _ (by exact A)).mono ?_;rintro e wc ⟨rfl,rfl⟩) | (go_at_call 98;refine(bC M o k w d _ (by exact A) a).mono ?_;rintro e w3 ⟨rfl,r⟩;unfold eW));obtain⟨N,t⟩:∃N,N=w3.alloc (.cells #[int i64 w[k].Yw,string w[k].Yx,slice (some ⟨C,0,none⟩) w[k].Yc.length (d (10+2*k)).cap,slice (d (11+2*k)).ao w[k].Yn.length (d (11+2*k)).cap,string w[k].YA.YB,int i64 w[k].YA.YC,int i64 w[k].YA.YD,int i64 w[k].til] 158):=⟨_,rfl⟩
     rw[<-t];have Z:ae [] wc N:=by rw[t];exact r.alloc _
     have B4:=fE t.symm;obtain⟨-,-,q2,-⟩:=zE B4;have F:=A.Yh Z;have E:aB N m (aD (fC w b k)):=I.Ym (fun x H=>Z.block x (I.lt H) (by simp));have L:=F.Yt.syms k w[k] (Ub a);have D:=Q.trans Z;have l:Xr (∀j u,(dm w[k].Yc)[j]?=some u->N.cell? ((⟨C,0,none⟩:Addr).add j)=some u):=fun j u hj=>by rw[bS];exact L.cell ek j u hj
     clear t r Z B4 A I B L Q;cases hh:fH w k b
     ·have y:Xr (fC w b (k+1)=fC w b k):=vL w b k (by rw[q.o,hh];simp);clear q;go_wp2_with (go_at_call 188;refine(iA M o k b w d _ (by exact F) a).mono ?_;rintro e w5 ⟨rfl,rfl⟩);go_roundg (w.length-(k+1))
      ·exact⟨k+1,m,by omega,rfl,by go_num,by rw[y.o],by rw[y.o];exact E,S,D⟩
      omega
     ·have y:Xr (fC w b (k+1)=fC w b k++w[k].Yc):=(by show _=_;rw[zf w b k (by rw[q.o,U,hh];rfl),SY.o]);clear q SY;go_wp2_with (first | (go_at_call 188;refine(iA M o k b w d _ (by exact F) a).mono ?_;rintro e w5 ⟨rfl,rfl⟩) | (at_builtin;refine aN _ rfl (.tmp 32) (.tmp 34) 61 rfl i0 (string ⟨#[]⟩) 16 m (aD (fC w b k)) underlying61 hi W X Y rfl UA rfl (by exact E) ⟨C,0,none⟩ w[k].Yc.length (d (10+2*k)).cap (dm w[k].Yc) rfl ?d0 l.o (mQ _) ad ?d3 ?d4 ?_))
      case d0=>simp[dm,aD]
      case d3=>simp only[aD];unfold maxLen;omega
      case d4=>simp only[aD];omega
      intro g5 P w5 V z c;rw[rN (fC w b k) w[k].Yc,<-y.o]at V;have ac:=D.grown z S;have an:f.heap.size<=g5:=by
       rcases c with e | e
       ·exact S g5 e
       ·exact Un D.size e
      have s:Xr ((aD (fC w b k)).n+w[k].Yc.length=(fC w b (k+1)).length):=cM (by rw[y.o];simp[aD]);rw[s.o];clear l z c q2 E;go_wp2;go_roundg (w.length-(k+1))
      ·exact⟨k+1,⟨some ⟨g5,0,none⟩,P⟩,by omega,rfl,by go_num,rfl,V,by intro x H;simp[Hd.Yv]at H;omega,ac⟩
      omega
  ·have e:k=w.length:=(by omega);subst e;go_wp2_with (go_at_call 81;refine(fF M o w d _ (by exact A)).mono ?_;rintro e w3 ⟨rfl,rfl⟩);go_ret;exact⟨m,rfl,I,S,Q⟩
end
def nW(l:List St)(syms:Xt)(a n:Nat):Bool:=match l[n]? with | some s=>fH l n a&&qP s syms | none=>false
theorem Kx(h:H<w.length):nW w l v H=(fH w H v&&qP w[H] l):=by
 unfold nW;rw[Ub h]
def eQ(l:List St)(a k:Nat):Xv:=(List.range k).filter (nW l (iu l a) a)
def aM(l:List St)(a:Nat):Xv:=eQ l a l.length
theorem xY(h:nW w (iu w v) v H=true):eQ w v (H+1)=eQ w v H++[H]:=by
 unfold eQ;rw[Vr,Vi];simp[h]
theorem vj(h:nW w (iu w v) v H=false):eQ w v (H+1)=eQ w v H:=by
 unfold eQ;rw[Vr,Vi];simp[h]
theorem nU:(eQ w v H).length<=H:=by
 unfold eQ;have:=VO (nW w (iu w v) v) (List.range H);simpa using this
theorem GY(a:j6 w)(b:H<w.length):(iu w H).length<=1073741824:=by
 have c:=ze w H w.length a b (Ue _);have d:=a.len;unfold iu;omega
set_option maxRecDepth 100000
theorem nR(h:fy f M o w d)(ha:b<w.length)(N:j6 w) :
  Calls prog 143 #[pointer (some ⟨M,o,none⟩),int i64 b] f fun e D=>∃l:Hd,e=returned (slice l.ao (aM w b).length l.cap)/\aB D l (bu (aM w b))/\(∀k,l.Yv=some k->f.heap.size<=k)/\ae [] f D:=by
 obtain⟨i0,hi,V,W,X⟩:=UC yb;have ac:=N.len;have I:=GY w b N ha;go_enter func143,ntmps143;go_wp2_with fail;refine(zO M o b w d _ h ha N).mono ?_;rintro e Y ⟨U,rfl,S,ad,z⟩;go_wp2
 go_loopg [5,7] w.length (fun gk sv i wr=>∃(k:Nat) (l:Hd),k<=w.length/\gk=w.length-k/\i=int i64 k/\sv=slice l.ao (eQ w b k).length l.cap/\aB wr l (bu (eQ w b k))/\(∀x,l.Yv=some x->Y.heap.size<=x)/\ae [] Y wr)
 ·exact⟨0,⟨none,0⟩,by omega,by omega,rfl,rfl,Uj _ _ _ _,by intro x r;simp[Hd.Yv]at r,ae.refl _ _⟩
 obtain⟨k,l,hk,hg,rfl,rfl,C,G,B⟩:=hrel;have p:=(h.Yh z).Yh B;have y:lj wr U (iu w b):=(S.view).Yh B;have ag:=nU w b k;by_cases g:k<w.length
 ·have A:Xr _:=Kx w (iu w b) b k g;have ai:=N.syms k g;have v:=(p.Yt.syms k w[k] (Ub g)).view;cases hh:fH w k b
  ·have s:Xr (eQ w b (k+1)=eQ w b k):=vj w b k (by rw[A.o,hh];rfl);clear A v y;go_wp2_with (first | (go_at_call 81;refine(fF M o w d _ (by exact p)).mono ?_;rintro e wc ⟨rfl,rfl⟩) | (go_at_call 188;refine(iA M o k b w d _ (by exact p) g).mono ?_;rintro e wd ⟨rfl,rfl⟩));go_roundg (w.length-(k+1))
   ·exact⟨k+1,l,by omega,rfl,by go_num,by rw[s.o],by rw[s.o];exact C,G,B⟩
   omega
  ·have Z:=fun(D:World) (v1:lj D (d (10+2*k)) w[k].Yc) (v2:lj D U (iu w b))=>wH w[k] (d (10+2*k)) (d (11+2*k)) U (iu w b) D v1 v2 (by omega) I;have q:Xr _:=Z;clear Z;cases L:qP w[k] (iu w b)
   ·have s:Xr (eQ w b (k+1)=eQ w b k):=vj w b k (by rw[A.o,L];simp);rw[L]at q;clear A;go_wp2_with (first | (go_at_call 81;refine(fF M o w d _ (by exact p)).mono ?_;rintro e wc ⟨rfl,rfl⟩) | (go_at_call 188;refine(iA M o k b w d _ (by exact p) g).mono ?_;rintro e wd ⟨rfl,rfl⟩) | (go_at_call 98;refine(bC M o k w d _ (by exact p) g).mono ?_;rintro e w3 ⟨rfl,a⟩) | (go_at_call 189;refine(q.o _ (by exact v.Yh a) (by exact y.Yh a)).mono ?_;rintro e w4 ⟨rfl,m⟩));go_roundg (w.length-(k+1))
    ·exact⟨k+1,l,by omega,rfl,by go_num,by rw[s.o],by rw[s.o];exact C.Ym (fun x r=>(a.trans m).block x (C.lt r) (by simp)),G,(B.trans a).trans m⟩
    omega
   ·have s:Xr (eQ w b (k+1)=eQ w b k++[k]):=xY w b k (by rw[A.o,hh,L];rfl);rw[L]at q;clear A;go_wp2_with (first | (go_at_call 81;refine(fF M o w d _ (by exact p)).mono ?_;rintro e wc ⟨rfl,rfl⟩) | (go_at_call 188;refine(iA M o k b w d _ (by exact p) g).mono ?_;rintro e wd ⟨rfl,rfl⟩) | (go_at_call 98;refine(bC M o k w d _ (by exact p) g).mono ?_;rintro e w3 ⟨rfl,a⟩) | (go_at_call 189;refine(q.o _ (by exact v.Yh a) (by exact y.Yh a)).mono ?_;rintro e w4 ⟨rfl,m⟩;have H:=C.Ym (fun x r=>((a.trans m).alloc (.cells #[int i64 k] 3)).block x (C.lt r) (by simp))) | (at_builtin;refine aN _ rfl (.tmp 28) (.tmp 30) 24 rfl i0 (int i64 0) 8 l (bu (eQ w b k)) underlying24 hi V W X rfl UA rfl (by exact H) ⟨_,0,none⟩ 1 1 [int i64 k] rfl rfl ?d1 ?d2 UA ?d3 ?d4 ?_))
    case d1=>intro j u K;match j,K with | 0,K=>simp at K;subst K;simp[Addr.add]
    case d2=>intro u hu;simp at hu;subst hu;rfl
    case d3=>simp only[bu];unfold maxLen;omega
    case d4=>simp only[bu];omega
    intro O E w5 J t c;rw[me (eQ w b k) k,<-s.o]at J;have F:=((B.trans a).trans m).alloc (.cells #[int i64 k] 3);have R:=F.grown t G;have af:Y.heap.size<=O:=by
     rcases c with e | e
     ·exact G O e
     ·have:=F.size;simp at e this;omega
    have P:Xr ((bu (eQ w b k)).n+1=(eQ w b (k+1)).length):=cM (by rw[s.o];simp[bu]);rw[P.o];clear t c H;go_wp2;go_roundg (w.length-(k+1))
    ·exact⟨k+1,⟨some ⟨O,0,none⟩,E⟩,by omega,rfl,by go_num,rfl,J,by intro x r;simp[Hd.Yv]at r;omega,R⟩
    omega
 ·have e:k=w.length:=by omega
  subst e;have Q:=z.trans B;have T:=z.size;go_wp2_with (go_at_call 81;refine(fF M o w d _ (by exact p)).mono ?_;rintro e w3 ⟨rfl,rfl⟩);go_ret;exact⟨l,rfl,C,fun x r=>Un T (G x r),Q⟩
theorem Re:(prog.info? 24).map (fun i=>(i.zero,i.size,i.bytes))=some (some (slice none 0 0),1,24):=by kernel_rfl
theorem Cc(h:H<v):(madeCells #[y7] v)[H]?=some y7:=by
 simp[madeCells,h,Nat.mod_one]
def nt(l:List St)(n:Nat):Bool:=match l[n]? with | some s=>ph s.Yw | none=>false
theorem BK(h:H<w.length):nt w H=ph w[H].Yw:=by
 unfold nt;rw[Ub h]
def mE(l:List St)(k n:Nat):Xv:=if n<k/\nt l n=true then aM l n else []
structure iJ(w:World)(g:Nat)(l:List St)(k:Nat)(K:Nat->Hd):Prop where
 arr:∃arr,w.heap[g]?=some (.cells arr 24)/\arr.size=l.length/\∀n,n<l.length->arr[n]?=some (slice (K n).ao (mE l k n).length (K n).cap)
 YF:∀n,n<l.length->aB w (K n) (bu (mE l k n))
 off:∀n,(K n).Yv≠some g
theorem iJ.Yu(h:iJ T n I a y)(q:ae z7 T i)(l:n∉z7)(k:∀b x,(y b).Yv=some x->x∉z7):iJ i n I a y:=by
 obtain⟨c,f,g,j⟩:=h.arr;exact⟨⟨c,q.get f l,g,j⟩,fun b d=>(h.YF b d).Ym (fun x e=>q.block x ((h.YF b d).lt e) (k b x e)),h.off⟩
theorem iJ.Yh(h:iJ T n I a y)(q:ae [] T i):iJ i n I a y:=h.Yu q (by simp) (by simp)
theorem iJ.cell(h:iJ T n I a y)(b:Nat)(f:b<I.length):T.cell? ⟨n,b,none⟩=some (slice (y b).ao (mE I a b).length (y b).cap):=by
 obtain⟨c,d,g,e⟩:=h.arr;rw[ah d];exact e b f
theorem iJ.free(h:iJ T n I a y)(b:Nat):T.frozen? ⟨n,b,none⟩=false:=by
 obtain⟨c,d,e,f⟩:=h.arr;exact am d b
theorem iJ.lt{k:Nat}(h:iJ T n I k y):n<T.heap.size:=by
 obtain⟨a,b,c,d⟩:=h.arr;exact aj b
theorem iJ.skip(h:iJ T n I a y)(f:nt I a=false):iJ T n I (a+1) y:=by
 have e:∀b,mE I (a+1) b=mE I a b:=by
  intro b;unfold mE;by_cases g:b=a
  ·subst g;rw[Ud (by rw[f];simp),Ud (by rw[f];simp)]
  ·have:(b<a+1/\nt I b=true) ↔ (b<a/\nt I b=true):=and_congr_left (fun _=>by omega);simp only[this]
 obtain⟨c,i,j,k⟩:=h.arr;exact⟨⟨c,i,j,fun b d=>by rw[e];exact k b d⟩,fun b d=>by rw[e];exact h.YF b d,h.off⟩
theorem iJ.store{k:Nat}(h:iJ T n I k y)(q:nt I k=true)(r:k<I.length)(c:Hd)(o:aB T c (bu (aM I k)))(j:c.Yv≠some n) :
  iJ (T.setCell ⟨n,k,none⟩ (slice c.ao (aM I k).length c.cap)) n I (k+1) (ie y k c):=by
 have e:∀a,a≠k->mE I (k+1) a=mE I k a:=by
  intro a b;unfold mE;have:(a<k+1/\nt I a=true) ↔ (a<k/\nt I a=true):=and_congr_left (fun _=>by omega);simp only[this]
 have g:mE I (k+1) k=aM I k:=by unfold mE;rw[Uf ⟨by omega,q⟩]
 obtain⟨l,m,i,p⟩:=h.arr;refine⟨⟨_,ab m _ _,by simpa using i,?_⟩,?_,?_⟩
 ·intro a d;by_cases b:a=k
  ·subst b;rw[dH,g];simp[i,d]
  ·rw[b9 _ _ _ _ b,e a b];rw[Xg (by omega)];exact p a d
 ·intro a d;by_cases b:a=k
  ·subst b;rw[dH,g];exact o.Ym (fun x f=>Ut _ _ _ _ (by rintro rfl;exact j f))
  ·rw[b9 _ _ _ _ b,e a b];exact(h.YF a d).Ym (fun x f=>Ut _ _ _ _ (by rintro rfl;exact h.off a f))
 ·intro a;by_cases b:a=k
  ·subst b;rw[dH];exact j
  ·rw[b9 _ _ _ _ b];exact h.off a
theorem tK(h:fy f o b w d)(R:j6 w) :
  Calls prog 114 #[pointer (some ⟨o,b,none⟩)] f fun e S=>∃(g:Nat) (K:Nat->Hd),e=returned (slice (some ⟨g,0,none⟩) w.length w.length)/\iJ S g w w.length K/\f.heap.size<=g/\(∀n x,(K n).Yv=some x->f.heap.size<=x)/\ae [] f S:=by
 obtain⟨W,U,I,J,L⟩:=UC Re;have O:=R.len;have Q:=fun f=>dV (P:=prog) f 181 24 W _ underlying181 U I w.length 1 J (by rw[L];omega) (by omega);obtain⟨z,m⟩:∃z,z=madeCells (slice none 0 0).cells (w.length*1):=⟨_,rfl⟩
 rw[<-m]at Q;have M:Xr (iJ (f.alloc (.cells z 24)) f.heap.size w 0 lB):=by
  refine⟨⟨z,Ui _ _,by rw[m,VH];omega,?_⟩,?_,fun n e=>by simp[lB,Hd.Yv]at e⟩
  ·intro n V;have e:mE w 0 n=[]:=(by unfold mE;rw[Ud (by omega)]);rw[e,m];exact Cc _ _ _ (by omega)
  ·intro n V;have e:mE w 0 n=[]:=(by unfold mE;rw[Ud (by omega)]);rw[e];exact Uj _ _ _ _
 clear m;go_enter func114,ntmps114;go_wp2_with (go_at_call 81;refine(fF o b w d _ (by exact h)).mono ?_;rintro e wc ⟨rfl,H⟩;rw[H])
 go_loopg [4] w.length (fun gk i wr=>∃(k:Nat) (K:Nat->Hd),k<=w.length/\gk=w.length-k/\i=int i64 k/\iJ wr f.heap.size w k K/\(∀n x,(K n).Yv=some x->f.heap.size<=x)/\ae [] f wr)
 ·exact⟨0,lB,by omega,by omega,rfl,M.o,fun n x r=>by simp[lB,Hd.Yv]at r,(ae.refl _ _).alloc _⟩
 obtain⟨k,K,hk,hg,rfl,u,E,v⟩:=hrel;have G:=h.Yh v;clear M Q;by_cases c:k<w.length
 ·have A:Xr _:=BK w k c;cases N:ph w[k].Yw
  ·have C:Xr (iJ wr f.heap.size w (k+1) K):=u.skip (by rw[A.o,N]);clear A;go_wp2_with (first | (go_at_call 98;refine(bC o b k w d _ (by exact G) c).mono ?_;rintro e X ⟨rfl,j⟩;unfold eW) | (go_at_call 161;refine(dj w[k].Yw _ _ _ _ _ _ _ _).mono ?_;rintro e Y ⟨rfl,l⟩));go_roundg (w.length-(k+1))
   ·exact⟨k+1,K,by omega,rfl,by go_num,(C.o.Yh j).Yh l,E,(v.trans j).trans l⟩
   omega
  ·go_wp2_with (first | (go_at_call 98;refine(bC o b k w d _ (by exact G) c).mono ?_;rintro e X ⟨rfl,j⟩;unfold eW) | (go_at_call 161;refine(dj w[k].Yw _ _ _ _ _ _ _ _).mono ?_;rintro e Y ⟨rfl,l⟩));have a:=j.trans l;refine(nR o b k w d _ (G.Yh a) c R).mono ?_;rintro e w5 ⟨y,rfl,s,q,t⟩;have p:=(u.Yh a).Yh t;have T:=(u.Yh a).lt;have F:y.Yv≠some f.heap.size:=fun e=>by have:=q _ e;omega
   have C:Xr _:=(p.store (by rw[A.o,N]) c y s F);have D:=(v.trans a).trans t;have B:Xr (∀n x,(ie K k y n).Yv=some x->f.heap.size<=x):=by
    intro n x r;by_cases e:n=k
    ·subst e;rw[dH]at r;have:=q x r;omega
    ·rw[b9 _ _ _ _ e]at r;exact E n x r
   have Z:=p.cell k c;have hf:=p.free;clear q s;go_wp2;go_roundg (w.length-(k+1))
   ·exact⟨k+1,ie K k y,by omega,rfl,by go_num,C.o,B.o,D.sr1 (Ue _) _⟩
   omega
 ·have e:k=w.length:=by omega
  subst e;go_wp2;go_ret;exact⟨f.heap.size,K,rfl,u,Ue _,E,v⟩
def mN(vs:Xt)(x:Xs):Option Nat:=(List.range vs.length).find? (fun i=>(vs.getD i ⟨#[]⟩).toList==x.toList)
def tN(l:List Bool):List Value:=l.map bool
def qW(l:List Bool):ew:=⟨4,1,l.length,tN l⟩
structure lJ(w:World)(tb:Nat)(vs:Xt)(ms:List Bool)(hv hm:Hd):Prop where
 Yv:w.heap[tb]?=some (.cells #[slice hv.ao vs.length hv.cap,slice hm.ao ms.length hm.cap] 327)
 vars:aB w hv (aD vs)
 marks:aB w hm (qW ms)
 o1:hv.Yv≠some tb
 o2:hm.Yv≠some tb
 o3:hv.Yv=none∨hv.Yv≠hm.Yv
theorem lJ.cells(h:lJ T n m z6 z2 z5):T.cell? ⟨n,0,none⟩=some (slice z2.ao m.length z2.cap)/\T.cell? ⟨n,1,none⟩=some (slice z5.ao z6.length z5.cap):=by
 refine⟨?_,?_⟩ <;> (rw[ah h.Yv];rfl)
theorem lJ.lt(h:lJ T n m z6 z2 z5):n<T.heap.size:=aj h.Yv
theorem lJ.Yu(h:lJ T n m z6 z2 z5)(k:ae z7 T i)(c:n∉z7)(b:∀x,z2.Yv=some x∨z5.Yv=some x->x∉z7):lJ i n m z6 z2 z5 :=
 ⟨k.get h.Yv c,h.vars.Ym (fun x a=>k.block x (h.vars.lt a) (b x (Us a))),h.marks.Ym (fun x a=>k.block x (h.marks.lt a) (b x (Uo a))),h.o1,h.o2,h.o3⟩
theorem lJ.Yh(h:lJ T n m z6 z2 z5)(k:ae [] T i):lJ i n m z6 z2 z5:=h.Yu k (by simp) (by simp)
set_option maxRecDepth 512
theorem uq(h:lJ f b S N g L)(B:S.length<=1073741824) :
  Calls prog 261 #[pointer (some ⟨b,0,none⟩),string z4] f fun e u=>e=returned (int i64 (oM (mN S z4)))/\u=f:=by
 obtain⟨r,v⟩:=h.cells;go_enter func261,ntmps261;go_wp2
 go_loopg [5] S.length (fun m i wr=>∃k:Nat,k<=S.length/\m=S.length-k/\i=int i64 k/\Xr (∀i,i<k->((S.getD i ⟨#[]⟩).toList==z4.toList)=false)/\wr=f)
 ·exact⟨0,by omega,by omega,rfl,fun i p=>by omega,rfl⟩
 obtain⟨k,A,z,rfl,a,rfl⟩:=hrel;by_cases c:k<S.length
 ·rcases h.vars.Ys with ⟨_,t,_⟩ | ⟨m,s,l,-,x,-⟩
  ·have:S.length=0:=t;omega
  ·have w:=h.vars.cell l k (string S[k]) (uJ S k c);rw[l]at r;have d:Xr _:=wT S k c;generalize S[k]=y at *;cases n:(y.toList==z4.toList)
   ·have q:Xr (∀i,i<k+1->((S.getD i ⟨#[]⟩).toList==z4.toList)=false):=by
     intro i p;by_cases e:i=k
     ·subst e;rw[d.o];exact n
     ·exact a.o i (by omega)
    clear d h;go_wp2;go_roundg (S.length-(k+1))
    ·exact⟨k+1,by omega,rfl,by go_num,q,rfl⟩
    omega
   ·have j:Xr (mN S z4=some k):=po c (by rw[d.o];exact n) a.o;clear d h;go_wp2;go_ret;exact⟨T0 (by rw[j.o];rfl),rfl⟩
 ·have j:Xr (mN S z4=none):=nY (fun i p=>a.o i (by omega));clear h;go_wp2;go_ret;exact⟨T0 (by rw[j.o];rfl),rfl⟩
def bN(vs ws:Xt):Xv:=ws.filterMap (mN vs)
theorem yG(h:v<l.length)(a:mN S l[v]=some H):bN S (l.take (v+1))=bN S (l.take v)++[H]:=by
 unfold bN;rw[pB l v h,WE];simp[a]
theorem yF(h:H<l.length)(a:mN S l[H]=none):bN S (l.take (H+1))=bN S (l.take H):=by
 unfold bN;rw[pB l H h,WE];simp[a]
theorem sw:(bN l y9).length<=y9.length:=XQ _ _
set_option maxRecDepth 100000
theorem zK(h:lJ f b S N y5 g)(hl:S.length<=1073741824)(M:lj f L l)(P:l.length<=1000000) :
  Calls prog 239 #[pointer (some ⟨b,0,none⟩),slice L.ao l.length L.cap] f fun e w'=>∃d:Hd,e=returned (slice d.ao (bN S l).length d.cap)/\aB w' d (bu (bN S l))/\(∀x,d.Yv=some x->f.heap.size<=x)/\ae [] f w':=by
 obtain⟨i0,hi,Q,R,T⟩:=UC yb;obtain⟨ao,ac⟩:=L;rcases M with rfl | ⟨af,F,ad,t,X,e2,Y,e4,e5⟩
 ·clear P;go_enter func239,ntmps239;go_wp2;refine Wd 1 ?_;rw[Wt];go_wp2;go_ret;exact⟨⟨none,0⟩,rfl,Uj _ _ _ _,by intro x v;simp[Hd.Yv]at v,ae.refl _ _⟩
 simp only at X;subst X;go_enter func239,ntmps239;go_wp2
 go_loopg [5,6] l.length (fun gk sv i wr=>∃(k:Nat) (d:Hd),k<=l.length/\gk=l.length-k/\i=int i64 k/\sv=slice d.ao (bN S (l.take k)).length d.cap/\aB wr d (bu (bN S (l.take k)))/\(∀x,d.Yv=some x->f.heap.size<=x)/\ae [] f wr)
 ·exact⟨0,⟨none,0⟩,by omega,by omega,rfl,rfl,Uj _ _ _ _,by intro x v;simp[Hd.Yv]at v,ae.refl _ _⟩
 obtain⟨k,d,hk,hg,rfl,rfl,C,G,A⟩:=hrel;have hr:=h.Yh A;have ai:=sw S (l.take k);have Z:(l.take k).length<=k:=by simp;omega
 by_cases s:k<l.length
 ·have c2:wr.cell? ⟨af,F+k,none⟩=some (string l[k]):=(ah (A.get e2 (by simp)) (F+k)).trans (Y k l[k] (Ub s))
  ·skip
   have W:=fun p=>yG S l k p s;have V:=yF S l k s;have r:Xr _:=W;have q:Xr _:=V;have U:=uq b S N y5 g l[k] wr hr hl;have c:Xr _:=U;clear W V U Y;generalize l[k]=y at *;rcases hp:mN S y with _ | p
   ·have w:Xr _:=q.o hp;rw[hp]at c;simp only[oM]at c;clear r q;go_wp2_with (go_at_call 261;refine Ug c.o ?_;rintro e w3 ⟨rfl,rfl⟩);go_roundg (l.length-(k+1))
    ·exact⟨k+1,d,by omega,rfl,by go_num,by rw[w.o],by rw[w.o];exact C,G,A⟩
    omega
   ·have w:Xr _:=r.o p hp;rw[hp]at c;simp only[oM]at c;have D:=C.Ym (fun x v=>((ae.refl [] wr).alloc (.cells #[int i64 p] 3)).block x (C.lt v) (by simp));clear r q;go_wp2_with (first | (go_at_call 261;refine Ug c.o ?_;rintro e w3 ⟨rfl,O⟩;rw[O]) | (at_builtin;refine aN _ rfl (.tmp 22) (.tmp 24) 24 rfl i0 (int i64 0) 8 d (bu (bN S (l.take k))) underlying24 hi Q R T rfl UA rfl (by exact D) ⟨_,0,none⟩ 1 1 [int i64 p] rfl rfl ?d1 ?d2 UA ?d3 ?d4 ?_))
    case d1=>intro j u H;match j,H with | 0,H=>simp at H;subst H;simp[Addr.add]
    case d2=>intro u hu;simp at hu;subst hu;rfl
    case d3=>simp only[bu];unfold maxLen;omega
    case d4=>simp only[bu];omega
    intro I z w5 E m a;rw[me (bN S (l.take k)) p,<-w.o]at E;have B:=A.alloc (.cells #[int i64 p] 3);have K:=B.grown m G;have ag:f.heap.size<=I:=by
     rcases a with e | e
     ·exact G I e
     ·have:=B.size;simp at e this;omega
    have J:Xr ((bu (bN S (l.take k))).n+1=(bN S (l.take (k+1))).length):=cM (by rw[w.o];simp[bu]);rw[J.o];clear m a D;go_wp2;go_roundg (l.length-(k+1))
    ·exact⟨k+1,⟨some ⟨I,0,none⟩,z⟩,by omega,rfl,by go_num,rfl,E,by intro x v;simp[Hd.Yv]at v;omega,K⟩
    omega
 ·have e:k=l.length:=by omega
  subst e;rw[Vk]at C ⊢;go_wp2;go_ret;exact⟨d,rfl,C,G,A⟩
def lz(side mi:Nat)(mem:Xv)(ms:List Bool):List Bool:=mem.foldl (fun ms mj=>ms.set (mi*side+mj) true) ms
def mJ(side:Nat)(mem:Xv)(ms:List Bool):List Bool:=mem.foldl (fun ms mi=>lz side mi mem ms) ms
def kj(side:Nat)(mem:Xv)(ms:List Bool)(i j:Nat):List Bool:=lz side (mem.getD i 0) (mem.take j) ((mem.take i).foldl (fun ms mi=>lz side mi mem ms) ms)
theorem qQ(b:Xv)(c:List Bool):(lz v H b c).length=c.length:=by
 unfold lz
 induction b generalizing c with
 | nil=>rfl
 | cons a r d=>rw[WA,d];simp
theorem uj(r:Xv)(c:List Bool):(r.foldl (fun c e=>lz b e x c) c).length=c.length:=by
 induction r generalizing c with
 | nil=>rfl
 | cons a r d=>rw[WA,d,qQ]
theorem kM:(kj b x zt v H).length=zt.length:=by
 unfold kj;rw[qQ,uj]
theorem DY(a:H<x.length):kj b x zt v (H+1)=(kj b x zt v H).set (x.getD v 0*b+x[H]) true:=by
 unfold kj lz;rw[pB x H a,VY];rfl
theorem Gb(a:H<x.length):kj b x zt H x.length=kj b x zt (H+1) 0:=by
 have e:x.getD H 0=x[H]:=by rw[Uc,Ub a];rfl
 unfold kj;rw[Vk,pB x H a,VY,e];rfl
theorem Ga:kj b x zt x.length 0=mJ b x zt:=by
 unfold kj mJ;rw[Vk];rfl
theorem Aa:(tN zt).length=zt.length*1:=by simp[tN]
theorem lJ.mark(h:lJ T n m z6 z2 z5)(d:Nat)(e:z5.ao=some ⟨d,0,none⟩)(i:Nat)(t:i<z6.length) :
  lJ (T.setCell ⟨d,i,none⟩ (bool true)) n m (z6.set i true) z2 z5:=by
 have k:z5.Yv=some d:=by unfold Hd.Yv;rw[e];rfl
 refine⟨?_,?_,?_,h.o1,h.o2,h.o3⟩
 ·rw[Ut _ _ _ _ (by rintro rfl;exact h.o2 k),h.Yv];simp
 ·refine h.vars.Ym (fun x j=>Ut _ _ _ _ ?_);rintro rfl;rcases h.o3 with a | a
  ·rw[a]at j;cases j
  ·exact a (j.trans k.symm)
 ·rcases h.marks.Ys with ⟨_,s,_⟩ | ⟨g,c,b,l,o,p,q,r⟩
  ·have:z6.length=0:=s;omega
  ·have:g=d:=(by rw[e]at b;injection b with b;injection b with b;exact b.symm);subst this;refine⟨by simp only[qW];rw[Aa],Uo ⟨g,z5.cap,c.setIfInBounds i (bool true),?_,UF _,ab l _ _,?_,p,?_,?_⟩⟩
   ·simp[qW,e]
   ·simpa [qW] using o
   ·simpa [qW] using q
   ·have f:c.toList.take (z6.length*1)=tN z6:=r;simp only[qW,List.length_set,Array.toList_setIfInBounds,List.take_set,f];simp[tN,List.map_set]
theorem mx(h:H<x.length):(jF x)[H]?=some (int i64 x[H]):=by simp[jF,h]
theorem DU(h:lJ f b S N y5 g)(Q:N.length=S.length*S.length)(T:S.length<=10000)(F:aB f L (bu x))(R:x.length<=1000000)(r:∀i (hi:i<x.length),x[i]<S.length)(A:∀l,L.Yv=some l->g.Yv≠some l) :
  Calls prog 238 #[pointer (some ⟨b,0,none⟩),slice L.ao x.length L.cap] f fun e w'=>e=returned (tuple #[])/\lJ w' b S (mJ S.length x N) y5 g/\gy (fun k=>g.Yv=some k) f w':=by
 obtain⟨ao,m⟩:=L;rcases F.Ys with ⟨e0,D,_⟩ | ⟨ag,ad,X,e2,Y,I,-⟩
 ·have z:x.length=0:=D;have P:x=[]:=UI z;subst P;clear F D z e0 R r A;go_enter func238,ntmps238;go_wp2;refine Wd 1 ?_;rw[Wt];go_wp2;go_end0;exact⟨rfl,h,gy.refl _ _⟩
 simp only at X Y I;have ai:x.length<=m:=Y;have af:m<=9223372036854775807:=by unfold maxLen at I;exact I
 subst X;go_enter func238,ntmps238;go_wp2
 go_loopg [4] x.length (fun gk i wr=>∃k:Nat,k<=x.length/\gk=x.length-k/\i=int i64 k/\lJ wr b S (kj S.length x N k 0) y5 g/\gy (fun k=>g.Yv=some k) f wr)
 ·exact⟨0,by omega,by omega,rfl,h,gy.refl _ _⟩
 obtain⟨k,hk,hg,rfl,E,M⟩:=hrel;by_cases d:k<x.length
 ·have HR:Xr _:=Gb S.length x N k d;go_wp2_with fail
  go_loopg [5] x.length (fun J i2 B=>∃j:Nat,j<=x.length/\J=x.length-j/\i2=int i64 j/\lJ B b S (kj S.length x N k j) y5 g/\gy (fun k=>g.Yv=some k) f B)
  ·exact⟨0,by omega,by omega,rfl,E,M⟩
  obtain⟨j,hj,an,rfl,a,n⟩:=hrel;clear E M;by_cases s:j<x.length
  ·have U:=r k d;have ar:=r j s;have p:aB wr ⟨some ⟨ag,0,none⟩,m⟩ (bu x):=F.Ym (fun l G=>n.block l (F.lt G) (fun e=>A l G e));have p1:=p.cell rfl k (int i64 x[k]) (mx x k d);have p2:=p.cell rfl j (int i64 x[j]) (mx x j s);obtain⟨c0,V⟩:=a.cells;rw[kM]at V;have H:=DY S.length x N k j s;have Z:x.getD k 0=x[k]:=(by rw[Uc,Ub d];rfl);rw[Z]at H;have c:x[k]*S.length+x[j]<N.length:=by
    rw[Q];have:(x[k]+1)*S.length<=S.length*S.length:=Nat.mul_le_mul_right _ U;rw[Xp]at this;omega
   have O:x[k]*S.length<=10000*10000:=Wj (by omega) T;have t:Xr _:=(fun K e=>a.mark K e (x[k]*S.length+x[j]) (by rw[kM];exact c));have u:Xr _:=H;rcases a.marks.Ys with ⟨_,D,_⟩ | ⟨K,W,C,v,w,-⟩
   ·have:(kj S.length x N k j).length=0:=D;rw[kM]at this;omega
   ·have ac:N.length<=g.cap:=(by have:(kj S.length x N k j).length<=g.cap:=w;rw[kM]at this;exact this);have al:=am v;have p3:=a.marks.cell C (x[k]*S.length+x[j]) (bool ((kj S.length x N k j)[x[k]*S.length+x[j]]'(by rw[kM];exact c))) (by simp[qW,tN,kM,c]);rw[C]at V;clear H v w p;generalize (kj S.length x N k j)[x[k]*S.length+x[j]]'(by rw[kM];exact c)=old at *;generalize G:x[k]=l at *;generalize hy:x[j]=y at *;obtain⟨q,hq⟩:∃q,l*S.length=q:=⟨_,rfl⟩
    have ap:(l:Int)*(S.length:Int)=(q:Int):=(by rw[<-hq];simp);rw[hq]at c O p3 t u;clear G hy Z;go_wp2_with fail;go_quiet (fail);go_wp2;go_roundg (x.length-(j+1))
    ·exact⟨j+1,by omega,rfl,by go_num,by rw[u.o];exact(t.o K C).Yh (bM.drewN nq),(n.Yh (bM.drewN nq)).setCell (Us (by unfold Hd.Yv;rw[C];rfl)) _⟩
    omega
  ·have e:j=x.length:=(by omega);subst e;rw[HR.o]at a;go_wp2;go_roundg (x.length-(k+1))
   ·exact⟨k+1,by omega,rfl,by go_num,a,n⟩
   omega
 ·have e:k=x.length:=by omega
  subst e;rw[Ga]at E;go_wp2;go_end0;exact⟨rfl,E,M⟩
def fK(side:Nat)(ms:List Bool)(i j:Nat):Bool:=!(i==j)&&ms.getD (i*side+j) false
theorem AS(b:n<y6)(c:a<y6):n*y6+a<y6*y6:=by
 have:(n+1)*y6<=y6*y6:=Nat.mul_le_mul_right _ b;rw[Xp]at this;omega
set_option maxRecDepth 512
theorem zZ(h:lJ f b S N g L)(m:N.length=S.length*S.length)(n:S.length<=10000)(A:v<S.length)(B:H<S.length) :
  Calls prog 216 #[pointer (some ⟨b,0,none⟩),int i64 v,int i64 H] f fun e E=>e=returned (bool (fK S.length N v H))/\E=f:=by
 obtain⟨F,x⟩:=h.cells;have a:v*S.length+H<N.length:=by rw[m];exact AS A B
 have l:v*S.length<=10000*10000:=Wj (by omega) n;rcases h.marks.Ys with ⟨_,y,_⟩ | ⟨G,r,t,k,d,-⟩
 ·have:N.length=0:=y;omega
 ·have u:N.length<=L.cap:=d;have D:=h.marks.cell t (v*S.length+H) (bool N[v*S.length+H]) (by simp[qW,tN,a]);have s:N.getD (v*S.length+H) false=N[v*S.length+H]:=by rw[Uc,Ub a];rfl
  have i:Xr (fK S.length N v H=(!(v==H)&&N[v*S.length+H])):=cM (by unfold fK;rw[s]);rw[t]at x;generalize N[v*S.length+H]=p at *;obtain⟨q,w⟩:∃q,v*S.length=q:=⟨_,rfl⟩
  have C:(v:Int)*(S.length:Int)=(q:Int):=by rw[<-w];simp
  rw[w]at a l D;clear s k d h;by_cases c:v=H
  ·have z:((v:Int) != (H:Int))=false:=(by simp[c]);have j:Xr (fK S.length N v H=false):=cM (by rw[i.o];simp[c]);clear i;go_enter func216,ntmps216;go_wp2;go_ret;exact⟨aE j.o.symm,rfl⟩
  ·have z:((v:Int) != (H:Int))=true:=(by simp;omega);have j:Xr (fK S.length N v H=p):=cM (by rw[i.o];simp[c]);clear i;go_enter func216,ntmps216;go_wp2;go_ret;exact⟨aE j.o.symm,rfl⟩
def tU(l:List St)(a n:Nat):Bool:=match l[n]? with | some s=>(s.Yw==1)&&fH l n a | none=>false
theorem Pw(h:H<w.length):tU w v H=((w[H].Yw==1)&&fH w H v):=by
 unfold tU;rw[Ub h]
def dF(l:List St)(a:Nat)(vs:Xt):Nat->List Bool
 | 0=>List.replicate (vs.length*vs.length) false
 | k+1=>if tU l a k=true then mJ vs.length (bN vs (symsAt l k)) (dF l a vs k) else dF l a vs k
def gI(l:List St)(a:Nat)(vs:Xt):List Bool:=dF l a vs l.length
theorem mK(k:Nat):(dF w H y9 k).length=y9.length*y9.length:=by
 induction k with
 | zero=>simp[dF]
 | succ k a =>
  rw[dF];split
  ·unfold mJ;rw[uj,a]
  ·exact a
theorem Jc(h:mN m yf=some n):n<m.length:=by
 have:=UV h;simpa using this
theorem ut(h:H<(bN S l).length):(bN S l)[H]<S.length:=by
 have a:=Uu h;unfold bN at a;rw[Wk]at a;obtain⟨x,_,b⟩:=a;exact Jc b
theorem RC:(prog.info? 4).map (fun i=>(i.zero,i.size,i.bytes))=some (some (bool false),1,1):=by kernel_rfl
theorem NG:madeCells #[y7] H=(List.replicate H y7).toArray:=by
 apply Array.ext
 ·rw[VH];simp
 ·intro i a b;have h:i<H:=by rw[VH]at a;exact a
  have:=Cc y7 H i h;rw[Array.getElem?_eq_getElem a]at this;simp at this ⊢;exact this
theorem ae.ofP(K:ae [] T i)(g:gy ya i yd)(b:∀k,ya k->T.heap.size<=k):ae [] T yd :=
 ⟨g.os.trans K.os,g.tape.trans K.tape,g.output.trans K.output,Un K.size g.size,fun k a _=>(g.block k (Ul a K.size) (fun e=>by have:=b k e;omega)).trans (K.block k a (by simp))⟩
set_option maxRecDepth 100000
theorem MA(h:fy f M o w d)(ok:j6 w)(hO:aB f L (aD l))(K:l.length<=10000) :
  Calls prog 210 #[pointer (some ⟨M,o,none⟩),int i64 b,slice L.ao l.length L.cap] f fun e w'=>∃(tb:Nat) (u t:Hd),e=returned (pointer (some ⟨tb,0,none⟩))/\lJ w' tb l (gI w b l) u t/\f.heap.size<=tb/\(∀x,u.Yv=some x∨t.Yv=some x->f.heap.size<=x)/\ae [] f w':=by
 obtain⟨i0,hi,a1,Z,a2⟩:=UC jN;obtain⟨i1,ap,aS,aT,a0⟩:=UC RC;have a3:=ok.len;obtain⟨q,hq⟩:∃q,l.length*l.length=q:=⟨_,rfl⟩
 have a7:(l.length:Int)*(l.length:Int)=(q:Int):=by rw[<-hq];simp
 have ba:q<=10000*10000:=by rw[<-hq];exact Wj K K
 have m1:=fun f=>dV (P:=prog) f 61 9 i0 _ underlying61 hi a1 l.length 1 Z (by rw[a2];omega) (by omega);have m2:=fun f=>dV (P:=prog) f 134 4 i1 _ underlying134 ap aS q 1 aT (by rw[a0];omega) (by omega);obtain⟨A,m⟩:∃mc,mc=madeCells (string ⟨#[]⟩).cells (l.length*1):=⟨_,rfl⟩
 obtain⟨s,p⟩:∃mc,mc=madeCells (bool false).cells (q*1):=⟨_,rfl⟩
 have z1:A.size=l.length*1:=by rw[m,VH]
 have R:Xr (s=(tN (dF w b l 0)).toArray):=by
  show _=_;rw[p,XL,<-hq];have:(bool false).cells=#[bool false]:=rfl;rw[this,NG];simp[dF,tN]
 rw[<-m]at m1;rw[<-p]at m2;clear m p;have K2:ae [] f (f.alloc (.cells A 9)):=bM.alloc _;have B:Xr ((prog.info? (aD l).e).map (·.size)=some (aD l).size):=cM (by simp[aD,hi,Z]);obtain⟨g,S,E,W,ac⟩:=rC (P:=prog) (f.alloc (.cells A 9)) 61 61 3 f.heap.size l.length L (aD l) A 9 underlying61 B.o (Ui _ _) (hO.Ym (fun x v=>K2.block x (hO.lt v) (by simp))) z1 (mQ _);simp only[aD]at S E;have C:g.heap.size=f.heap.size+1:=by rw[ac];simp
 have K3:ae [] f g:=((K2.mono (S':=[f.heap.size]) (by simp)).trans W).mono (by simp);obtain⟨W4,c⟩:∃W4,W4=(g.alloc (.cells s 4)).alloc (.cells #[slice (some ⟨f.heap.size,0,none⟩) l.length l.length,slice (some ⟨g.heap.size,0,none⟩) q q] 327):=⟨_,rfl⟩
 have K4:ae [] f W4:=by rw[c];exact(K3.alloc _).alloc _
 have H:Xr (q=(dF w b l 0).length):=cM (by rw[mK,hq]);have A4:lJ W4 (g.heap.size+1) l (dF w b l 0) ⟨some ⟨f.heap.size,0,none⟩,l.length⟩ ⟨some ⟨g.heap.size,0,none⟩,q⟩:=by
  refine⟨?_,?_,?_,?_,?_,?_⟩
  ·rw[c,<-H.o];have:=Ui (g.alloc (.cells s 4)) (.cells #[slice (some ⟨f.heap.size,0,none⟩) l.length l.length,slice (some ⟨g.heap.size,0,none⟩) q q] 327);simpa using this
  ·refine aB.made (r:=aD l) ?_ (EK _) (by simp only[aD];unfold maxLen;omega);rw[c];exact((bM.alloc _).alloc _).get E (by simp)
  ·have e:(⟨some ⟨g.heap.size,0,none⟩,q⟩:Hd)=⟨some ⟨g.heap.size,0,none⟩,(qW (dF w b l 0)).n⟩:=(by rw[H.o];rfl);rw[e];refine aB.made (r:=qW (dF w b l 0)) ?_ (Aa _) (by simp only[qW];rw[<-H.o];unfold maxLen;omega);rw[c];have:=((ae.refl [] (g.alloc (.cells s 4))).alloc (.cells #[slice (some ⟨f.heap.size,0,none⟩) l.length l.length,slice (some ⟨g.heap.size,0,none⟩) q q] 327)).get (Ui g (.cells s 4)) (by simp);rw[this,R.o];rfl
  ·intro e;simp[Hd.Yv]at e;omega
  ·intro e;simp[Hd.Yv]at e
  ·right;intro e;simp[Hd.Yv]at e;omega
 have D:Xr _:=c.symm;rw[C]at D A4;clear c W E R K2 hO B z1 ac;obtain⟨u,G⟩:∃u:Hd,u=⟨some ⟨f.heap.size,0,none⟩,l.length⟩:=⟨_,rfl⟩
 obtain⟨t,F⟩:∃t:Hd,t=⟨some ⟨f.heap.size+1,0,none⟩,q⟩:=⟨_,rfl⟩
 rw[<-G,<-F]at A4;have HB:Xr (∀x,u.Yv=some x∨t.Yv=some x->f.heap.size<=x/\x<=f.heap.size+1):=by
  intro x v;rw[G,F]at v;simp[Hd.Yv]at v;omega
 clear G F;go_enter func210,ntmps210;go_upto_region 4 with fail
 rw[D.o];clear D m1 m2 S K3 C;go_wp2
 go_loopg [9] w.length (fun gk i wr=>∃k:Nat,k<=w.length/\gk=w.length-k/\i=int i64 k/\lJ wr (f.heap.size+1+1) l (dF w b l k) u t/\ae [] f wr)
 ·exact⟨0,by omega,by omega,rfl,A4,K4⟩
 obtain⟨k,hk,hg,rfl,T,U⟩:=hrel;have I:=h.Yh U;have a4:=T.lt;clear A4 K4;by_cases a:k<w.length
 ·have N:Xr _:=Pw w b k a;have bc:=ok.syms k a;have a5:=ok.pos k a;have SY:Xr (symsAt w k=w[k].Yc):=px w k a;have O:Xr (dF w b l (k+1)=if tU w b k=true then mJ l.length (bN l (symsAt w k)) (dF w b l k) else dF w b l k):=rfl;cases Y:(w[k].Yw==1)
  ·have Q:Xr (dF w b l (k+1)=dF w b l k):=(by show _=_;rw[O.o,N.o,Y];simp);clear N O SY;go_wp2_with (first | (go_at_call 81;refine(fF M o w d _ (by exact I)).mono ?_;rintro e wc ⟨rfl,rfl⟩) | (go_at_call 98;refine(bC M o k w d _ (by exact I) a).mono ?_;rintro e w5 ⟨rfl,j⟩;unfold eW));go_roundg (w.length-(k+1))
   ·exact⟨k+1,by omega,rfl,by go_num,by rw[Q.o];exact(T.Yh j).Yh (bM.alloc _),(U.trans j).alloc _⟩
   omega
  ·go_wp2_with (first | (go_at_call 81;refine(fF M o w d _ (by exact I)).mono ?_;rintro e wc ⟨rfl,az⟩;rw[az]) | (go_at_call 98;refine(bC M o k w d _ (by exact I) a).mono ?_;rintro e w5 ⟨rfl,j⟩;unfold eW));obtain⟨W6,z⟩:∃W6,W6=w5.alloc (.cells #[int i64 w[k].Yw,string w[k].Yx,slice (d (10+2*k)).ao w[k].Yc.length (d (10+2*k)).cap,slice (d (11+2*k)).ao w[k].Yn.length (d (11+2*k)).cap,string w[k].YA.YB,int i64 w[k].YA.YC,int i64 w[k].YA.YD,int i64 w[k].til] 158):=⟨_,rfl⟩
   rw[<-z];have k6:ae [] wr W6:=by rw[z];exact j.alloc _
   have B6:=fE z.symm;obtain⟨-,-,q2,-⟩:=zE B6;have J:=I.Yh k6;have y:=T.Yh k6;have V:=U.trans k6;have an:=(J.Yt.syms k w[k] (Ub a)).view;clear z j k6 B6 I T U;cases hh:fH w k b
   ·have Q:Xr (dF w b l (k+1)=dF w b l k):=(by show _=_;rw[O.o,N.o,hh];simp);clear N O SY;go_wp2_with (go_at_call 188;refine(iA M o k b w d _ (by exact J) a).mono ?_;rintro e w7 ⟨rfl,rfl⟩);go_roundg (w.length-(k+1))
    ·exact⟨k+1,by omega,rfl,by go_num,by rw[Q.o];exact y,V⟩
    omega
   ·have Q:Xr (dF w b l (k+1)=mJ l.length (bN l w[k].Yc) (dF w b l k)):=(by show _=_;rw[O.o,N.o,Y,hh,SY.o];simp);clear N O SY;go_wp2_with (first | (go_at_call 188;refine(iA M o k b w d _ (by exact J) a).mono ?_;rintro e w7 ⟨rfl,ax⟩;rw[ax]) | (go_at_call 239;refine(zK (f.heap.size+1+1) l (dF w b l k) u t (d (10+2*k)) w[k].Yc _ (by exact y) (by omega) (by exact an) (by omega)).mono ?_;rintro e w8 ⟨hd,rfl,al,ai,X⟩));have ad:=y.Yh X;have a6:=sw l w[k].Yc
    refine(DU (f.heap.size+1+1) l (dF w b l k) u t hd (bN l w[k].Yc) _ ad (mK _ _ _ _) K al (by omega) (fun i hi=>ut l w[k].Yc i hi) (by
     intro x v e;have h1:=ai x v;have h2:=HB.o x (Uo e);have h3:=y.lt
     omega)).mono ?_
    rintro e w9 ⟨rfl,af,ar⟩;have ag:=(V.trans X).ofP ar (fun x v=>(HB.o x (Uo v)).1);go_wp2;go_roundg (w.length-(k+1))
    ·exact⟨k+1,by omega,rfl,by go_num,by rw[Q.o];exact af,ag⟩
    omega
 ·have e:k=w.length:=by omega
  subst e;go_wp2_with (go_at_call 81;refine(fF M o w d _ (by exact I)).mono ?_;rintro e wc ⟨rfl,rfl⟩);go_ret;exact⟨f.heap.size+1+1,u,t,rfl,T,by omega,fun x v=>(HB.o x v).1,U⟩
structure bn(w:World)(b t:Nat)(cs:List Value)(rows:Nat->ew)(H:Nat->Hd):Prop where
 Yv:w.heap[b]?=some (.cells cs.toArray t)
 YF:∀i,aB w (H i) (rows i)
 apart:∀i j,i≠j->(H i).Yv=none∨(H i).Yv≠(H j).Yv
 off:∀i,(H i).Yv≠some b
theorem bn.lt(h:bn T n a z0 z3 y):n<T.heap.size:=aj h.Yv
theorem bn.inlt(h:bn T n a z0 z3 y)(c:gF y y6):y6<T.heap.size:=by
 obtain⟨i,b⟩:=c;exact(h.YF i).lt b
theorem bn.free(h:bn T n a z0 z3 y)(i:Nat):T.frozen? ⟨n,i,none⟩=false:=am h.Yv i
theorem bn.cell(h:bn T n a z0 z3 y)(i:Nat):T.cell? ⟨n,i,none⟩=z0[i]?:=by rw[ah h.Yv];simp
theorem bn.keptP(h:bn T n a z0 z3 y)(d:gy ya T i)(e:¬ya n)(f:∀k,gF y k->¬ya k):bn i n a z0 z3 y :=
 ⟨d.get h.Yv e,fun c=>(h.YF c).Ym (fun k b=>d.block k ((h.YF c).lt b) (f k ⟨c,b⟩)),h.apart,h.off⟩
theorem bn.Yu(h:bn T n a z0 z3 y)(c:ae z7 T i)(b:n∉z7)(e:∀k,gF y k->k∉z7):bn i n a z0 z3 y :=
 h.keptP (c.toP (P:=(·∈z7)) (fun _ d _=>d)) b e
theorem bn.Yh(h:bn T n a z0 z3 y)(b:ae [] T i):bn i n a z0 z3 y:=h.Yu b (by simp) (by simp)
theorem bn.put{rows':Nat->ew}(h:bn T n a z0 z3 y)(c d:Nat)(p:Hd)(E:aB i p (rows' d))(s:T.grownBy i (y d).Yv)(b:p.Yv=none∨p.Yv=(y d).Yv∨∃g,p.Yv=some g/\T.heap.size<=g)(w:∀j,j≠d->rows' j=z3 j)(u:Value) :
  bn (i.setCell ⟨n,c,none⟩ u) n a (z0.set c u) rows' (ie y d p)/\aw n T y (i.setCell ⟨n,c,none⟩ u) (ie y d p):=by
 have D:=h.lt;have z:i.heap[n]?=some (.cells z0.toArray a):=(s.block n D (fun e=>h.off d e.symm)).trans h.Yv;have r:∀j,(ie y d p j).Yv≠some n:=by
  intro j;by_cases e:j=d
  ·subst e;rw[dH];intro t;rcases b with b | b | ⟨g,b,m⟩
   ·rw[b]at t;cases t
   ·exact h.off j (b ▸ t)
   ·rw[b]at t;cases t;omega
  ·rw[b9 _ _ _ _ e];exact h.off j
 refine⟨⟨?_,?_,?_,r⟩,⟨s.os,s.tape,s.output,by have:=s.size;simp[World.setCell];omega,?_⟩,?_⟩
 ·rw[ab z,U0]
 ·intro j;have q:aB i (ie y d p j) (rows' j):=by
   by_cases e:j=d
   ·subst e;rw[dH];exact E
   ·rw[b9 _ _ _ _ e,w j e];refine(h.YF j).Ym (fun k f=>s.block k ((h.YF j).lt f) ?_);intro v;rcases h.apart j d e with x | x
    ·rw[x]at f;cases f
    ·exact x (f.trans v)
  refine q.Ym (fun k f=>Ut _ _ _ _ ?_);rintro rfl;exact r j f
 ·intro j l o;by_cases e:j=d
  ·subst e;rw[dH,b9 _ _ _ _ (fun e=>o e.symm)];rcases b with b | b | ⟨g,b,m⟩
   ·exact Us b
   ·rw[b];exact h.apart j l o
   ·right;rw[b];intro v;have:=(h.YF l).lt v.symm;omega
  ·rw[b9 _ _ _ _ e];by_cases A:l=d
   ·subst A;rw[dH];rcases b with b | b | ⟨g,b,m⟩
    ·rw[b];cases (y j).Yv <;> simp
    ·rw[b];exact h.apart j l o
    ·cases t:(y j).Yv with
     | none=>exact Us rfl
     | some k=>right;rw[b];intro v;cases v;have:=(h.YF j).lt t;omega
   ·rw[b9 _ _ _ _ A];exact h.apart j l o
 ·intro k f C;rw[Ut _ _ _ _ (fun e=>C (Us e))];exact s.block k f (fun e=>C (Uo ⟨d,e.symm⟩))
 ·intro k f;obtain⟨j,e⟩:=f;by_cases B:j=d
  ·subst B;rw[dH]at e;rcases b with b | b | ⟨g,b,m⟩
   ·rw[b]at e;cases e
   ·exact Us ⟨j,b ▸ e⟩
   ·rw[b]at e;cases e;exact Uo m
  ·rw[b9 _ _ _ _ B]at e;exact Us ⟨j,e⟩
theorem bn.set(h:bn T n a z0 z3 y)(c:Nat)(u:Value) :
  bn (T.setCell ⟨n,c,none⟩ u) n a (z0.set c u) z3 y/\aw n T y (T.setCell ⟨n,c,none⟩ u) y:=by
 refine⟨⟨?_,?_,h.apart,h.off⟩,(gy.refl _ _).setCell (Us (Us rfl)) _,fun _ b=>Us b⟩
 ·rw[ab h.Yv,U0]
 ·intro j;refine(h.YF j).Ym (fun k b=>Ut _ _ _ _ ?_);rintro rfl;exact h.off j b
theorem bn.app{cs':List Value}{rows':Nat->ew}(h:bn T n a z0 z3 y)(c f g b m:Nat)(r:ew)(o:aB i ⟨some ⟨g,0,none⟩,b⟩ r)(t:r=rows' f)(k:T.grownBy i (y f).Yv)(d:(y f).Yv=some g∨T.heap.size<=g)(l:∀j,j≠f->rows' j=z3 j)(q:Value)(u:z0[c]?=some q)(s:z0.set c (slice (some ⟨g,0,none⟩) m b)=cs') :
  i.cell? ⟨n,c,none⟩=some q/\i.frozen? ⟨n,c,none⟩=false /\
  Xr (bn (i.setCell ⟨n,c,none⟩ (slice (some ⟨g,0,none⟩) m b)) n a cs' rows' (ie y f ⟨some ⟨g,0,none⟩,b⟩) /\
   aw n T y (i.setCell ⟨n,c,none⟩ (slice (some ⟨g,0,none⟩) m b)) (ie y f ⟨some ⟨g,0,none⟩,b⟩)):=by
 have p:=(k.block n h.lt (fun e=>h.off f e.symm)).trans h.Yv;subst t;subst s;refine⟨by rw[ah p];simpa using u,am p _,?_⟩;exact h.put (rows':=rows') c f ⟨some ⟨g,0,none⟩,b⟩ o k
  (by
    rcases d with e | e
    ·exact Uo (Us e.symm)
    ·exact Uo (Uo ⟨g,rfl,by simpa using e⟩)) l _
structure Ro(w:World)(b o g:Nat)(L:List Rw):Prop where
 cell:∃arr t,w.heap[b]?=some (.cells arr t)/\arr[o+2]?=some (slice (some ⟨g,0,none⟩) L.length L.length)
 arr:w.heap[g]?=some (.cells (lP L).toArray 38)
structure jg where
 Yw:Int
 Yd:Nat
 at_:Pl
def lV(s:jg):List Value:=[int i64 s.Yw,int i64 s.Yd,string s.at_.YB,int i64 s.at_.YC,int i64 s.at_.YD]
def za(l:List jg):List Value:=l.flatMap lV
def gJ(l:List jg):ew:=⟨174,5,l.length,za l⟩
theorem vC(l:List jg)(s:jg):(⟨(gJ l).e,(gJ l).size,(gJ l).n+1,(gJ l).xs++lV s⟩:ew)=gJ (l++[s]):=by simp[gJ,za]
theorem vG(s:jg):∀u∈lV s,u.oneCell'=true:=by
 intro u a;simp only[lV,List.mem_cons,List.not_mem_nil,or_false]at a;rcases a with rfl | rfl | rfl | rfl | rfl <;> rfl
theorem Rf:(prog.info? 174).map (fun i=>(i.zero,i.size,i.bytes))=some (some (agg #[int i64 0,int i64 0,string ⟨#[]⟩,int i64 0,int i64 0]),5,48):=by kernel_rfl
structure lK where
 Yz:Xv
 Yp:Xv
 steps:List jg
 Yj:Nat
 behind:Bool
def yO(c:lK):Nat->ew
 | 0=>bu c.Yz
 | 1=>bu c.Yp
 | 2=>gJ c.steps
 | _+3=>bu []
def mu(c:lK)(H:Nat->Hd):List Value :=
 [slice (H 0).ao c.Yz.length (H 0).cap,slice (H 1).ao c.Yp.length (H 1).cap,slice (H 2).ao c.steps.length (H 2).cap,int i64 c.Yj,bool c.behind]
def eM(w:World)(b:Nat)(c:lK)(H:Nat->Hd):Prop:=bn w b 279 (mu c H) (yO c) H
theorem eM.cells{c:lK}(h:eM T n c y) :
  T.cell? ⟨n,0,none⟩=some (slice (y 0).ao c.Yz.length (y 0).cap)/\T.cell? ⟨n,1,none⟩=some (slice (y 1).ao c.Yp.length (y 1).cap)/\T.cell? ⟨n,2,none⟩=some (slice (y 2).ao c.steps.length (y 2).cap) /\
  T.cell? ⟨n,3,none⟩=some (int i64 c.Yj)/\T.cell? ⟨n,4,none⟩=some (bool c.behind) :=
 ⟨bn.cell h 0,bn.cell h 1,bn.cell h 2,bn.cell h 3,bn.cell h 4⟩
structure ju(c:lK)(N:Nat):Prop where
 Yz:c.Yz.length<=N
 Yp:c.Yp.length<=N
 steps:c.steps.length<=N
 Yj:c.Yj<=10*N+5
 behind:c.behind=true->0<c.steps.length
def dO(c:lK)(s:jg):lK:={ c with steps:=c.steps++[s],behind:=false }
theorem qB(c:lK)(i:Nat->Hd)(k:Int)(n:Nat)(f:Xs)(l b:Int)(w:World)(h:eM w H c i)(Z:ju c 10000000) :
  Calls prog 245 #[pointer (some ⟨H,0,none⟩),agg #[int i64 k,int i64 n,string f,int i64 l,int i64 b]] w fun e I=>e=returned (tuple #[])/\∃x,eM I H (dO c ⟨k,n,⟨f,l,b⟩⟩) x/\aw H w i I x/\∀j,j≠2->x j=i j:=by
 obtain⟨X,T,C,D,E⟩:=UC Rf;have V:=Z.steps;obtain⟨W,v⟩:∃W,W=w.alloc (.cells #[int i64 k,int i64 n,string f,int i64 l,int i64 b] 174):=⟨_,rfl⟩
 have K:=fg v.symm;have y:eM W H c i:=bn.Yh h K;have B:=fE v.symm;obtain⟨y0,y1,y2,y3,y4⟩:=lr B;obtain⟨L,M,N,O,P⟩:=y.cells;clear L M O;have R:=bn.lt y;have G:Xr (eM (W.alloc (.cells #[int i64 k,int i64 n,string f,int i64 l,int i64 b] 174)).drew H c i):=bn.Yh y ((ae.refl [] W).alloc _).drew;have s2:Xr (∀j u,(lV ⟨k,n,⟨f,l,b⟩⟩)[j]?=some u->(W.alloc (.cells #[int i64 k,int i64 n,string f,int i64 l,int i64 b] 174)).drew.cell? ((⟨W.heap.size,0,none⟩:Addr).add j)=some u):=by
  intro j u q;have U:(W.alloc (.cells #[int i64 k,int i64 n,string f,int i64 l,int i64 b] 174)).drew.heap[W.heap.size]?=some (.cells #[int i64 k,int i64 n,string f,int i64 l,int i64 b] 174):=Ui _ _;rw[bS,ah U];simpa [lV] using q
 have s4:Xr ((gJ c.steps).n+1<=maxLen):=by show _<=_;simp only[gJ];unfold maxLen;omega
 have s5:Xr (((gJ c.steps).n+1)*48<=140737488355328):=by show _<=_;simp only[gJ];omega
 have J:Xr _:=v.symm;have A:Xr (∀j,j≠2->yO { c with steps:=c.steps++[⟨k,n,⟨f,l,b⟩⟩] } j=yO c j):=by
  intro j q
  match j,q with
  | 0,_=>rfl
  | 1,_=>rfl
  | 2,q=>exact absurd rfl q
  | m+3,_=>rfl
 clear v B h;go_enter func245,ntmps245;go_upto_region 1 with fail
 rw[J.o];go_region_law (refine cv rfl (.tmp 8) (.tmp 10) 163 rfl X (agg #[int i64 0,int i64 0,string ⟨#[]⟩,int i64 0,int i64 0]) 48 (i 2) (gJ c.steps) underlying163 T C D E rfl (XD 4) (by simp[Act.eval] <;> rfl) (bn.YF G.o 2) ⟨W.heap.size,0,none⟩ 1 1 (lV ⟨k,n,⟨f,l,b⟩⟩) (by simp[Act.eval]) rfl s2.o (vG _) UA s4.o s5.o ?_;intro g p w1 s r a;obtain⟨Y,Q,t⟩:=bn.app G.o (cs':=mu { c with steps:=c.steps++[⟨k,n,⟨f,l,b⟩⟩] } (ie i 2 ⟨some ⟨g,0,none⟩,p⟩)) (rows':=yO { c with steps:=c.steps++[⟨k,n,⟨f,l,b⟩⟩] }) 2 2 g p ((gJ c.steps).n+1) _ s (vC c.steps ⟨k,n,⟨f,l,b⟩⟩) r (by simpa using a) A.o (slice (i 2).ao c.steps.length (i 2).cap) rfl (by simp[mu,ie,gJ]);clear s r a)
 all_goals
  have F:Xr _:=bn.set t.o.1 4 (bool false);have z:=(bn.cell t.o.1 4);have S:=bn.free t.o.1;simp only[mu,List.getElem?_cons_succ,List.getElem?_cons_zero]at z;clear N P y0 y1 y2 y3 y4 Y Q;go_wp2;go_end0;exact⟨rfl,_,F.o.1,((t.o.2.first (bM.alloc _).drew).first K).trans F.o.2,fun j q=>b9 _ _ _ _ q⟩
end Go.Proofs.YtnbhnocdhbcbcaaGreat
