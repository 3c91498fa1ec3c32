import Derived.BigQuiet
import Derived.Test.YtnbhnocdhbcbcaaGreatK06
namespace Go.Proofs.YtnbhnocdhbcbcaaGreat
open Go.RowKit Tryz
open Value IntKind Ending
set_option maxHeartbeats 0
variable{T i yd:World}{z2 z5:Hd}{m:Xt}{z7:Xv}{yf:Xs}{n a y6:Nat}{I:List St}{y:Nat->Hd}{z6:List Bool}{ya:Nat->Prop}{z0:List Value}{z3:Nat->eR}(M o b:Nat)(S:Xt)(N:List Bool)(D:St)(y5 g:Hd)(w:List St)(d:Nat->Hd)(L:Hd)(l:Xt)(x:Xv)(zt:List Bool)(y7:Value)(v H:Nat)(z4:Xs)(f:World)(y9:Xt)
def kZ(w:World)(h:Hd)(l:Xt):Prop :=
 l=[]∨∃g off cur t,h.ao=some ⟨g,off,none⟩/\w.heap[g]?=some (.cells cur t)/\(∀j x,l[j]?=some x->cur[off+j]?=some (string x))/\l.length<=h.cap/\h.cap<=9223372036854775807
theorem aB.view(o:aB T z2 (aE m)):kZ T z2 m:=by
 rcases o.XP with ⟨_,k,_⟩ | ⟨g,a,d,e,f,c,n,i⟩
 ·exact TH (Uf k)
 ·refine TE ⟨g,0,a,_,d,e,?_,f,by unfold maxLen at c;exact c⟩;intro j x l;have b:a.toList.take (m.length*1)=dL m:=i;have:(dL m)[j]?=some (string x):=by simp[dL,l]
  rw[<-b,VX]at this;rw[Vr];simp at this;exact this.2
theorem kZ.XR(v:kZ T z2 m)(k:ae z7 T i)(f:∀x,z2.XS=some x->x∉z7):kZ i z2 m:=by
 rcases v with v | ⟨g,b,a,t,c,d,e⟩
 ·exact TH v
 ·exact TE ⟨g,b,a,t,c,k.get d (f g (by unfold Hd.XS;rw[c];rfl)),e⟩
theorem kZ.XE(v:kZ T z2 m)(k:ae [] T i):kZ i z2 m:=v.XR k (by simp)
theorem rG{b:Xs}(h:yf=b):Ending.returned (string yf)=returned (string b):=by rw[h]
theorem MM(u:kZ f L l)(s:l.length<=1073741824) :
  Calls prog 219 #[slice L.ao l.length L.cap,string z4] f fun e v=>e=returned (bool (aK l z4))/\v=f:=by
 obtain⟨w,p⟩:=L;rcases u with rfl | ⟨g,d,q,t,m,r,j,y,z⟩
 ·clear s;go_enter func219,ntmps219;go_wp2;refine VB 1 ?_;rw[VT];go_wp2;go_ret;exact⟨rfl,rfl⟩
 ·simp only at m;subst m;go_enter func219,ntmps219;go_wp2
  go_loopg [5] l.length (fun g i wr=>∃k:Nat,k<=l.length/\g=l.length-k/\i=int i64 k/\Xr (aK l z4=aK (l.drop k) z4)/\wr=f)
  ·exact⟨0,by omega,by omega,rfl,rfl,rfl⟩
  obtain⟨k,B,A,rfl,b,rfl⟩:=hrel;by_cases a:k<l.length
  ·have x:wr.cell? ⟨g,d+k,none⟩=some (string l[k]):=(ah r (d+k)).trans (j k l[k] (Tn a));cases n:((l[k]).toList==z4.toList)
   ·have c:Xr (aK l z4=aK (l.drop (k+1)) z4):=Dh l z4 k a b.o n;clear b j;go_wp2;go_roundg (l.length-(k+1))
    ·exact⟨k+1,by omega,rfl,by go_num,c,rfl⟩
    omega
   ·have c:Xr (aK l z4=true):=Iq l z4 k a b.o n;clear b j;go_wp2;go_ret;exact⟨aF c.o.symm,rfl⟩
  ·have c:Xr (aK l z4=false):=Di l z4 k a b.o;clear b j;go_wp2;go_ret;exact⟨aF c.o.symm,rfl⟩
def jf(s:St):Xs:=s.Xz.getD 0 ⟨#[]⟩
def aN(s:St):Xs:=if(s.XU==2)=true/\2<=s.Xz.length then s.Xz.getD 1 ⟨#[]⟩ else⟨#[]⟩
theorem wL(h:H<l.length):l.getD H ⟨#[]⟩=l[H]:=by rw[To,Tn h];rfl
theorem Ce(u:kZ f g D.Xz)(s:D.Xz.length<=1073741824) :
  Calls prog 192 #[fS D g L] f fun e v=>e=returned (string (jf D))/\ae [] f v:=by
 unfold fS;obtain⟨w,n⟩:=g;rcases u with i | ⟨q,c,p,t,k,l,m,y,z⟩
 ·have a:Xr (jf D=⟨#[]⟩):=by show _=_;unfold jf;rw[i];rfl
  rw[i];simp only[List.length_nil];clear s i;go_enter func192,ntmps192;go_wp2;go_ret;exact⟨rG a.o.symm,(ae.refl _ _).alloc _⟩
 ·simp only at k;subst k;by_cases d:D.Xz.length=0
  ·have j:((D.Xz.length:Int)==0)=true:=(by simp[d]);have a:Xr (jf D=⟨#[]⟩):=ci (by unfold jf;rw[Uf d];rfl);clear d;go_enter func192,ntmps192;go_wp2;go_ret;exact⟨rG a.o.symm,(ae.refl _ _).alloc _⟩
  ·have j:((D.Xz.length:Int)==0)=false:=TU.2 (by omega);have b:0<D.Xz.length:=(by omega);have a:Xr (jf D=D.Xz[0]):=wL _ _ b;have x:f.cell? ⟨q,c,none⟩=some (string D.Xz[0]):=(ah l c).trans (m 0 _ (Tn b));have r:=aj l;clear m d;go_enter func192,ntmps192;go_wp2;go_ret;exact⟨rG a.o.symm,(ae.refl _ _).alloc _⟩
theorem pV(s:kZ f g D.Xz)(z:D.Xz.length<=1073741824) :
  Calls prog 190 #[fS D g L] f fun e u=>e=returned (string (aN D))/\ae [] f u:=by
 unfold fS;cases d:(D.XU==2)
 ·have i:(D.XU != 2)=true:=by simp[bne,d]
  have b:Xr (aN D=⟨#[]⟩):=ci (by unfold aN;rw[d];simp);go_enter func190,ntmps190;go_wp2;go_ret;exact⟨rG b.o.symm,(ae.refl _ _).alloc _⟩
 ·have i:(D.XU != 2)=false:=by simp[bne,d]
  by_cases A:D.Xz.length<2
  ·have b:Xr (aN D=⟨#[]⟩):=(by show _=_;unfold aN;rw[Tp (by omega)]);go_enter func190,ntmps190;go_wp2;go_ret;exact⟨rG b.o.symm,(ae.refl _ _).alloc _⟩
  ·have a:1<D.Xz.length:=(by omega);obtain⟨v,m⟩:=g;rcases s with p | ⟨q,c,n,t,j,k,l,x,y⟩
   ·rw[p]at a;simp at a
   ·simp only at j;subst j;have b:Xr (aN D=D.Xz[1]):=ci (by unfold aN;rw[Tr ⟨d,by omega⟩];exact wL _ _ a);have w:f.cell? ⟨q,c+1,none⟩=some (string D.Xz[1]):=(ah k (c+1)).trans (l 1 _ (Tn a));have r:=aj k;clear l;go_enter func190,ntmps190;go_wp2;go_ret;exact⟨rG b.o.symm,(ae.refl _ _).alloc _⟩
def qK(s:St)(syms:Xt):Bool:=if(s.XU==2)=true then aK syms (aN s) else(s.XU==3)
theorem wA(r:kZ f y5 D.Xz)(k:kZ f L l)(q:D.Xz.length<=1073741824)(i:l.length<=1073741824) :
  Calls prog 189 #[fS D y5 g,slice L.ao l.length L.cap] f fun e b=>e=returned (bool (qK D l))/\ae [] f b:=by
 have m:=fun(b:World) (j:kZ b y5 D.Xz)=>pV D y5 g b j q;have a:Xr _:=m;unfold fS at a ⊢;clear m;cases p:(D.XU==2)
 ·have c:Xr (qK D l=(D.XU==3)):=by show _=_;unfold qK;rw[p];simp
  go_enter func189,ntmps189;go_wp2;go_ret;exact⟨aF (by rw[c.o]),(ae.refl _ _).alloc _⟩
 ·have c:Xr (qK D l=aK l (aN D)):=by show _=_;unfold qK;rw[p];simp
  go_enter func189,ntmps189;go_wp2_with fail;refine(a.o _ (by exact r.XE (bR.alloc _))).mono ?_;rintro e s ⟨rfl,d⟩;have n:=((ae.refl [] f).alloc _).trans d;go_wp2_with fail;refine(MM L l _ _ (by exact k.XE n) i).mono ?_;rintro e t ⟨rfl,rfl⟩;go_wp2;go_ret;exact⟨aF (by rw[c.o]),n⟩
section
structure jV(l:List St):Prop where
 len:l.length<=10000
 pos:∀i (h:i<l.length),0<l[i].Xz.length
 syms:∀i (h:i<l.length),l[i].Xz.length<=10000
 prfs:∀i (h:i<l.length),l[i].XK.length<=10000
theorem ae.grown{b:Option Nat}(K:ae [] T i)(g:i.grownBy yd b)(c:∀k,b=some k->T.heap.size<=k):ae [] T yd :=
 ⟨g.os.trans K.os,g.tape.trans K.tape,g.output.trans K.output,TF K.size g.size,fun k a _=>(g.block k (Tw a K.size) (fun e=>by have:=c k e.symm;omega)).trans (K.block k a (by simp))⟩
theorem xC(k l c u:Int)(a j:Xs)(b g:Xu)(e d m i:Nat) :
  (Instr.field 158 (agg #[int i64 k,string a,slice b e d,slice g m i,string j,int i64 l,int i64 c,int i64 u]) 2).run prog f=.ok (slice b e d) f:=by kernel_rfl
attribute [local go_sem] xC
def Bh(l:List St)(a n:Nat):Bool:=match l[n]? with | some s=>(s.XU==3)&&fE l n a | none=>false
theorem Q1(h:H<w.length):Bh w v H=((w[H].XU==3)&&fE w H v):=by
 unfold Bh;rw[Tn h]
def fA(l:List St)(a k:Nat):Xt:=symsAt l a++((List.range k).filter (Bh l a)).flatMap (symsAt l)
def io(l:List St)(a:Nat):Xt:=fA l a l.length
theorem pi(h:H<w.length):symsAt w H=w[H].Xz:=by
 unfold symsAt;rw[Tn h]
theorem we:fA w H 0=symsAt w H:=by unfold fA;rw[List.range_zero];rw[WM,WB,TY]
theorem yP(h:Bh w v H=true):fA w v (H+1)=fA w v H++symsAt w H:=by
 unfold fA;rw[UU,UI];simp[h]
theorem vG(h:Bh w v H=false):fA w v (H+1)=fA w v H:=by
 unfold fA;rw[UU,UI];simp[h]
theorem yO(k:Nat)(b:jV w)(a:H<w.length)(f:k<=w.length):(fA w H k).length<=10000+k*10000:=by
 induction k with
 | zero =>
  have:=b.syms H a;have e:=congrArg List.length (we w H);have c:=congrArg List.length (pi w H a);omega
 | succ k d =>
  have:=d (by omega);cases h:Bh w H k with
  | true =>
   have e:=congrArg List.length (yP w H k h);have c:=congrArg List.length (pi w k (by omega));have:=b.syms k (by omega);rw[Tv]at e;omega
  | false =>
   have e:=congrArg List.length (vG w H k h);omega
set_option maxRecDepth 100000
theorem zv(h:fM f M o w d)(J:b<w.length)(K:jV w) :
  Calls prog 187 #[pointer (some ⟨M,o,none⟩),int i64 b] f fun e w'=>∃m:Hd,e=returned (slice m.ao (io w b).length m.cap)/\aB w' m (aE (io w b))/\(∀k,m.XS=some k->f.heap.size<=k)/\ae [] f w':=by
 obtain⟨i0,hi,W,X,Y⟩:=TZ kg;have ai:=K.len;go_enter func187,ntmps187;go_wp2_with fail;refine(bF M o b w d _ h J).mono ?_;rintro e w1 ⟨rfl,v⟩;have h1:=h.XE v;have O1:=h1.XQ.syms b w[b] (Tn J);have hp:=K.pos b J;have hm:=K.syms b J;rcases O1.XP with ⟨_,h0,_⟩ | ⟨g1,af,e1,-⟩
 ·have:w[b].Xz.length=0:=h0;omega
 ·unfold fS;rw[e1];have l:Xr (∀j u,(dL w[b].Xz)[j]?=some u->w1.cell? ((⟨g1,0,none⟩:Addr).add j)=some u):=fun j u hj=>by rw[bY];exact O1.cell e1 j u hj
  have ES:Xr (fA w b 0=w[b].Xz):=ci (by rw[we];exact pi w b J);have HO:Xr (aB w1 ⟨none,0⟩ (aE [])):=Ty _ _ _ _;clear O1;go_wp2_with (at_builtin;refine aL _ rfl (.tmp 8) (.tmp 12) 61 rfl i0 (string ⟨#[]⟩) 16 ⟨none,0⟩ (aE []) underlying61 hi W X Y rfl TR rfl HO.o ⟨g1,0,none⟩ w[b].Xz.length (d (10+2*b)).cap (dL w[b].Xz) rfl ?c0 l.o (mM _) hp ?c3 ?c4 ?_)
  case c0=>simp[dL,aE]
  case c3=>simp only[aE,List.length_nil];unfold maxLen;omega
  case c4=>simp only[aE,List.length_nil];omega
  intro g O w2 G T p;rw[rI [] w[b].Xz,V4,<-ES.o]at G;have R:ae [] f w2:=v.grown T (by simp[Hd.XS]);have al:f.heap.size<=g:=by
   rcases p with e | e
   ·simp[Hd.XS]at e
   ·exact TF v.size e
  have s:Xr ((aE []).n+w[b].Xz.length=(fA w b 0).length):=ci (by rw[ES.o];simp[aE]);rw[s.o];clear l HO T p h1 v e1 hp hm s ES;go_wp2
  go_loopg [5,6] w.length (fun gk sv i wr=>∃(k:Nat) (m:Hd),k<=w.length/\gk=w.length-k/\i=int i64 k/\sv=slice m.ao (fA w b k).length m.cap/\aB wr m (aE (fA w b k))/\(∀x,m.XS=some x->f.heap.size<=x)/\ae [] f wr)
  ·exact⟨0,⟨some ⟨g,0,none⟩,O⟩,by omega,by omega,rfl,rfl,G,by intro x H;simp[Hd.XS]at H;omega,R⟩
  obtain⟨k,m,hk,hg,rfl,rfl,I,S,Q⟩:=hrel;have A:=h.XE Q;clear G R;by_cases a:k<w.length
  ·have ar:=yO w b k K J (by omega);have q:Xr _:=Q1 w b k a;have ap:=K.syms k a;have ad:=K.pos k a;have B:=A.XQ.syms k w[k] (Tn a);rcases B.XP with ⟨_,h0,_⟩ | ⟨C,ag,ek,-⟩
   ·have:w[k].Xz.length=0:=h0;omega
   ·have SY:Xr (symsAt w k=w[k].Xz):=pi w k a;cases U:(w[k].XU==3)
    ·have y:Xr (fA w b (k+1)=fA w b k):=vG w b k (by rw[q.o,U];rfl);clear q B;go_wp2_with (first | (go_at_call 81;refine(fa M o w d _ (by exact A)).mono ?_;rintro e w3 ⟨rfl,rfl⟩) | (go_at_call 98;refine(bF M o k w d _ (by exact A) a).mono ?_;rintro e w3 ⟨rfl,r⟩;unfold fS));go_roundg (w.length-(k+1))
     ·exact⟨k+1,m,by omega,rfl,by go_num,by rw[y.o],by rw[y.o];exact I.XJ (fun x H=>(r.trans (bR.alloc _)).block x (I.lt H) (by simp)),S,(Q.trans r).alloc _⟩
     omega
    ·go_wp2_with (first | (go_at_call 81;refine(fa M o w d _ (by exact A)).mono ?_;rintro e wc ⟨rfl,rfl⟩) | (go_at_call 98;refine(bF M o k w d _ (by exact A) a).mono ?_;rintro e w3 ⟨rfl,r⟩;unfold fS));obtain⟨N,t⟩:∃N,N=w3.alloc (.cells #[int i64 w[k].XU,string w[k].XV,slice (some ⟨C,0,none⟩) w[k].Xz.length (d (10+2*k)).cap,slice (d (11+2*k)).ao w[k].XK.length (d (11+2*k)).cap,string w[k].XY.XZ,int i64 w[k].XY.X0,int i64 w[k].XY.X3,int i64 w[k].til] 158):=⟨_,rfl⟩
     rw[<-t];have Z:ae [] wc N:=by rw[t];exact r.alloc _
     have B4:=f9 t.symm;obtain⟨-,-,q2,-⟩:=wt B4;have F:=A.XE Z;have E:aB N m (aE (fA w b k)):=I.XJ (fun x H=>Z.block x (I.lt H) (by simp));have L:=F.XQ.syms k w[k] (Tn a);have D:=Q.trans Z;have l:Xr (∀j u,(dL w[k].Xz)[j]?=some u->N.cell? ((⟨C,0,none⟩:Addr).add j)=some u):=fun j u hj=>by rw[bY];exact L.cell ek j u hj
     clear t r Z B4 A I B L Q;cases hh:fE w k b
     ·have y:Xr (fA w b (k+1)=fA w b k):=vG w b k (by rw[q.o,hh];simp);clear q;go_wp2_with (go_at_call 188;refine(iy M o k b w d _ (by exact F) a).mono ?_;rintro e w5 ⟨rfl,rfl⟩);go_roundg (w.length-(k+1))
      ·exact⟨k+1,m,by omega,rfl,by go_num,by rw[y.o],by rw[y.o];exact E,S,D⟩
      omega
     ·have y:Xr (fA w b (k+1)=fA w b k++w[k].Xz):=(by show _=_;rw[yP w b k (by rw[q.o,U,hh];rfl),SY.o]);clear q SY;go_wp2_with (first | (go_at_call 188;refine(iy M o k b w d _ (by exact F) a).mono ?_;rintro e w5 ⟨rfl,rfl⟩) | (at_builtin;refine aL _ rfl (.tmp 32) (.tmp 34) 61 rfl i0 (string ⟨#[]⟩) 16 m (aE (fA w b k)) underlying61 hi W X Y rfl TR rfl (by exact E) ⟨C,0,none⟩ w[k].Xz.length (d (10+2*k)).cap (dL w[k].Xz) rfl ?d0 l.o (mM _) ad ?d3 ?d4 ?_))
      case d0=>simp[dL,aE]
      case d3=>simp only[aE];unfold maxLen;omega
      case d4=>simp only[aE];omega
      intro g5 P w5 V z c;rw[rI (fA w b k) w[k].Xz,<-y.o]at V;have ac:=D.grown z S;have an:f.heap.size<=g5:=by
       rcases c with e | e
       ·exact S g5 e
       ·exact TF D.size e
      have s:Xr ((aE (fA w b k)).n+w[k].Xz.length=(fA w b (k+1)).length):=ci (by rw[y.o];simp[aE]);rw[s.o];clear l z c q2 E;go_wp2;go_roundg (w.length-(k+1))
      ·exact⟨k+1,⟨some ⟨g5,0,none⟩,P⟩,by omega,rfl,by go_num,rfl,V,by intro x H;simp[Hd.XS]at H;omega,ac⟩
      omega
  ·have e:k=w.length:=(by omega);subst e;go_wp2_with (go_at_call 81;refine(fa M o w d _ (by exact A)).mono ?_;rintro e w3 ⟨rfl,rfl⟩);go_ret;exact⟨m,rfl,I,S,Q⟩
end
def nL(l:List St)(syms:Xt)(a n:Nat):Bool:=match l[n]? with | some s=>fE l n a&&qK s syms | none=>false
theorem J9(h:H<w.length):nL w l v H=(fE w H v&&qK w[H] l):=by
 unfold nL;rw[Tn h]
def eN(l:List St)(a k:Nat):Xv:=(List.range k).filter (nL l (io l a) a)
def aP(l:List St)(a:Nat):Xv:=eN l a l.length
theorem xM(h:nL w (io w v) v H=true):eN w v (H+1)=eN w v H++[H]:=by
 unfold eN;rw[UU,UI];simp[h]
theorem ve(h:nL w (io w v) v H=false):eN w v (H+1)=eN w v H:=by
 unfold eN;rw[UU,UI];simp[h]
theorem pE:(eN w v H).length<=H:=by
 unfold eN;have:=U3 (nL w (io w v) v) (List.range H);simpa using this
theorem GB(a:jV w)(b:H<w.length):(io w H).length<=1073741824:=by
 have c:=yO w H w.length a b (Tq _);have d:=a.len;unfold io;omega
set_option maxRecDepth 100000
theorem qE(h:fM f M o w d)(ha:b<w.length)(N:jV w) :
  Calls prog 143 #[pointer (some ⟨M,o,none⟩),int i64 b] f fun e D=>∃l:Hd,e=returned (slice l.ao (aP w b).length l.cap)/\aB D l (bD (aP w b))/\(∀k,l.XS=some k->f.heap.size<=k)/\ae [] f D:=by
 obtain⟨i0,hi,V,W,X⟩:=TZ xO;have ac:=N.len;have I:=GB w b N ha;go_enter func143,ntmps143;go_wp2_with fail;refine(zv M o b w d _ h ha N).mono ?_;rintro e Y ⟨U,rfl,S,ad,z⟩;go_wp2
 go_loopg [5,7] w.length (fun gk sv i wr=>∃(k:Nat) (l:Hd),k<=w.length/\gk=w.length-k/\i=int i64 k/\sv=slice l.ao (eN w b k).length l.cap/\aB wr l (bD (eN w b k))/\(∀x,l.XS=some x->Y.heap.size<=x)/\ae [] Y wr)
 ·exact⟨0,⟨none,0⟩,by omega,by omega,rfl,rfl,Ty _ _ _ _,by intro x r;simp[Hd.XS]at r,ae.refl _ _⟩
 obtain⟨k,l,hk,hg,rfl,rfl,C,G,B⟩:=hrel;have p:=(h.XE z).XE B;have y:kZ wr U (io w b):=(S.view).XE B;have ag:=pE w b k;by_cases g:k<w.length
 ·have A:Xr _:=J9 w (io w b) b k g;have ai:=N.syms k g;have v:=(p.XQ.syms k w[k] (Tn g)).view;cases hh:fE w k b
  ·have s:Xr (eN w b (k+1)=eN w b k):=ve w b k (by rw[A.o,hh];rfl);clear A v y;go_wp2_with (first | (go_at_call 81;refine(fa M o w d _ (by exact p)).mono ?_;rintro e wc ⟨rfl,rfl⟩) | (go_at_call 188;refine(iy M o k b w d _ (by exact p) g).mono ?_;rintro e wd ⟨rfl,rfl⟩));go_roundg (w.length-(k+1))
   ·exact⟨k+1,l,by omega,rfl,by go_num,by rw[s.o],by rw[s.o];exact C,G,B⟩
   omega
  ·have Z:=fun(D:World) (v1:kZ D (d (10+2*k)) w[k].Xz) (v2:kZ D U (io w b))=>wA w[k] (d (10+2*k)) (d (11+2*k)) U (io w b) D v1 v2 (by omega) I;have q:Xr _:=Z;clear Z;cases L:qK w[k] (io w b)
   ·have s:Xr (eN w b (k+1)=eN w b k):=ve w b k (by rw[A.o,L];simp);rw[L]at q;clear A;go_wp2_with (first | (go_at_call 81;refine(fa M o w d _ (by exact p)).mono ?_;rintro e wc ⟨rfl,rfl⟩) | (go_at_call 188;refine(iy M o k b w d _ (by exact p) g).mono ?_;rintro e wd ⟨rfl,rfl⟩) | (go_at_call 98;refine(bF M o k w d _ (by exact p) g).mono ?_;rintro e w3 ⟨rfl,a⟩) | (go_at_call 189;refine(q.o _ (by exact v.XE a) (by exact y.XE a)).mono ?_;rintro e w4 ⟨rfl,m⟩));go_roundg (w.length-(k+1))
    ·exact⟨k+1,l,by omega,rfl,by go_num,by rw[s.o],by rw[s.o];exact C.XJ (fun x r=>(a.trans m).block x (C.lt r) (by simp)),G,(B.trans a).trans m⟩
    omega
   ·have s:Xr (eN w b (k+1)=eN w b k++[k]):=xM w b k (by rw[A.o,hh,L];rfl);rw[L]at q;clear A;go_wp2_with (first | (go_at_call 81;refine(fa M o w d _ (by exact p)).mono ?_;rintro e wc ⟨rfl,rfl⟩) | (go_at_call 188;refine(iy M o k b w d _ (by exact p) g).mono ?_;rintro e wd ⟨rfl,rfl⟩) | (go_at_call 98;refine(bF M o k w d _ (by exact p) g).mono ?_;rintro e w3 ⟨rfl,a⟩) | (go_at_call 189;refine(q.o _ (by exact v.XE a) (by exact y.XE a)).mono ?_;rintro e w4 ⟨rfl,m⟩;have H:=C.XJ (fun x r=>((a.trans m).alloc (.cells #[int i64 k] 3)).block x (C.lt r) (by simp))) | (at_builtin;refine aL _ rfl (.tmp 28) (.tmp 30) 24 rfl i0 (int i64 0) 8 l (bD (eN w b k)) underlying24 hi V W X rfl TR rfl (by exact H) ⟨_,0,none⟩ 1 1 [int i64 k] rfl rfl ?d1 ?d2 TR ?d3 ?d4 ?_))
    case d1=>intro j u K;match j,K with | 0,K=>simp at K;subst K;simp[Addr.add]
    case d2=>intro u hu;simp at hu;subst hu;rfl
    case d3=>simp only[bD];unfold maxLen;omega
    case d4=>simp only[bD];omega
    intro O E w5 J t c;rw[l4 (eN w b k) k,<-s.o]at J;have F:=((B.trans a).trans m).alloc (.cells #[int i64 k] 3);have R:=F.grown t G;have af:Y.heap.size<=O:=by
     rcases c with e | e
     ·exact G O e
     ·have:=F.size;simp at e this;omega
    have P:Xr ((bD (eN w b k)).n+1=(eN w b (k+1)).length):=ci (by rw[s.o];simp[bD]);rw[P.o];clear t c H;go_wp2;go_roundg (w.length-(k+1))
    ·exact⟨k+1,⟨some ⟨O,0,none⟩,E⟩,by omega,rfl,by go_num,rfl,J,by intro x r;simp[Hd.XS]at r;omega,R⟩
    omega
 ·have e:k=w.length:=by omega
  subst e;have Q:=z.trans B;have T:=z.size;go_wp2_with (go_at_call 81;refine(fa M o w d _ (by exact p)).mono ?_;rintro e w3 ⟨rfl,rfl⟩);go_ret;exact⟨l,rfl,C,fun x r=>TF T (G x r),Q⟩
theorem QI:(prog.info? 24).map (fun i=>(i.zero,i.size,i.bytes))=some (some (slice none 0 0),1,24):=by kernel_rfl
theorem BA(h:H<v):(madeCells #[y7] v)[H]?=some y7:=by
 simp[madeCells,h,Nat.mod_one]
def nJ(l:List St)(n:Nat):Bool:=match l[n]? with | some s=>oB s.XU | none=>false
theorem Bq(h:H<w.length):nJ w H=oB w[H].XU:=by
 unfold nJ;rw[Tn h]
def mw(l:List St)(k n:Nat):Xv:=if n<k/\nJ l n=true then aP l n else []
structure iH(w:World)(g:Nat)(l:List St)(k:Nat)(K:Nat->Hd):Prop where
 arr:∃arr,w.heap[g]?=some (.cells arr 24)/\arr.size=l.length/\∀n,n<l.length->arr[n]?=some (slice (K n).ao (mw l k n).length (K n).cap)
 X9:∀n,n<l.length->aB w (K n) (bD (mw l k n))
 off:∀n,(K n).XS≠some g
theorem iH.XR(h:iH T n I a y)(q:ae z7 T i)(l:n∉z7)(k:∀b x,(y b).XS=some x->x∉z7):iH i n I a y:=by
 obtain⟨c,f,g,j⟩:=h.arr;exact⟨⟨c,q.get f l,g,j⟩,fun b d=>(h.X9 b d).XJ (fun x e=>q.block x ((h.X9 b d).lt e) (k b x e)),h.off⟩
theorem iH.XE(h:iH T n I a y)(q:ae [] T i):iH i n I a y:=h.XR q (by simp) (by simp)
theorem iH.cell(h:iH T n I a y)(b:Nat)(f:b<I.length):T.cell? ⟨n,b,none⟩=some (slice (y b).ao (mw I a b).length (y b).cap):=by
 obtain⟨c,d,g,e⟩:=h.arr;rw[ah d];exact e b f
theorem iH.free(h:iH T n I a y)(b:Nat):T.frozen? ⟨n,b,none⟩=false:=by
 obtain⟨c,d,e,f⟩:=h.arr;exact am d b
theorem iH.lt{k:Nat}(h:iH T n I k y):n<T.heap.size:=by
 obtain⟨a,b,c,d⟩:=h.arr;exact aj b
theorem iH.skip(h:iH T n I a y)(f:nJ I a=false):iH T n I (a+1) y:=by
 have e:∀b,mw I (a+1) b=mw I a b:=by
  intro b;unfold mw;by_cases g:b=a
  ·subst g;rw[Tp (by rw[f];simp),Tp (by rw[f];simp)]
  ·have:(b<a+1/\nJ I b=true) ↔ (b<a/\nJ I b=true):=and_congr_left (fun _=>by omega);simp only[this]
 obtain⟨c,i,j,k⟩:=h.arr;exact⟨⟨c,i,j,fun b d=>by rw[e];exact k b d⟩,fun b d=>by rw[e];exact h.X9 b d,h.off⟩
theorem iH.store{k:Nat}(h:iH T n I k y)(q:nJ I k=true)(r:k<I.length)(c:Hd)(o:aB T c (bD (aP I k)))(j:c.XS≠some n) :
  iH (T.setCell ⟨n,k,none⟩ (slice c.ao (aP I k).length c.cap)) n I (k+1) (iJ y k c):=by
 have e:∀a,a≠k->mw I (k+1) a=mw I k a:=by
  intro a b;unfold mw;have:(a<k+1/\nJ I a=true) ↔ (a<k/\nJ I a=true):=and_congr_left (fun _=>by omega);simp only[this]
 have g:mw I (k+1) k=aP I k:=by unfold mw;rw[Tr ⟨by omega,q⟩]
 obtain⟨l,m,i,p⟩:=h.arr;refine⟨⟨_,ab m _ _,by simpa using i,?_⟩,?_,?_⟩
 ·intro a d;by_cases b:a=k
  ·subst b;rw[dI,g];simp[i,d]
  ·rw[cd _ _ _ _ b,e a b];rw[Wy (by omega)];exact p a d
 ·intro a d;by_cases b:a=k
  ·subst b;rw[dI,g];exact o.XJ (fun x f=>TM _ _ _ _ (by rintro rfl;exact j f))
  ·rw[cd _ _ _ _ b,e a b];exact(h.X9 a d).XJ (fun x f=>TM _ _ _ _ (by rintro rfl;exact h.off a f))
 ·intro a;by_cases b:a=k
  ·subst b;rw[dI];exact j
  ·rw[cd _ _ _ _ b];exact h.off a
theorem tH(h:fM f o b w d)(R:jV w) :
  Calls prog 114 #[pointer (some ⟨o,b,none⟩)] f fun e S=>∃(g:Nat) (K:Nat->Hd),e=returned (slice (some ⟨g,0,none⟩) w.length w.length)/\iH S g w w.length K/\f.heap.size<=g/\(∀n x,(K n).XS=some x->f.heap.size<=x)/\ae [] f S:=by
 obtain⟨W,U,I,J,L⟩:=TZ QI;have O:=R.len;have Q:=fun f=>dG (P:=prog) f 181 24 W _ underlying181 U I w.length 1 J (by rw[L];omega) (by omega);obtain⟨z,m⟩:∃z,z=madeCells (slice none 0 0).cells (w.length*1):=⟨_,rfl⟩
 rw[<-m]at Q;have M:Xr (iH (f.alloc (.cells z 24)) f.heap.size w 0 nN):=by
  refine⟨⟨z,Tu _ _,by rw[m,U7];omega,?_⟩,?_,fun n e=>by simp[nN,Hd.XS]at e⟩
  ·intro n V;have e:mw w 0 n=[]:=(by unfold mw;rw[Tp (by omega)]);rw[e,m];exact BA _ _ _ (by omega)
  ·intro n V;have e:mw w 0 n=[]:=(by unfold mw;rw[Tp (by omega)]);rw[e];exact Ty _ _ _ _
 clear m;go_enter func114,ntmps114;go_wp2_with (go_at_call 81;refine(fa o b w d _ (by exact h)).mono ?_;rintro e wc ⟨rfl,H⟩;rw[H])
 go_loopg [4] w.length (fun gk i wr=>∃(k:Nat) (K:Nat->Hd),k<=w.length/\gk=w.length-k/\i=int i64 k/\iH wr f.heap.size w k K/\(∀n x,(K n).XS=some x->f.heap.size<=x)/\ae [] f wr)
 ·exact⟨0,nN,by omega,by omega,rfl,M.o,fun n x r=>by simp[nN,Hd.XS]at r,(ae.refl _ _).alloc _⟩
 obtain⟨k,K,hk,hg,rfl,u,E,v⟩:=hrel;have G:=h.XE v;clear M Q;by_cases c:k<w.length
 ·have A:Xr _:=Bq w k c;cases N:oB w[k].XU
  ·have C:Xr (iH wr f.heap.size w (k+1) K):=u.skip (by rw[A.o,N]);clear A;go_wp2_with (first | (go_at_call 98;refine(bF o b k w d _ (by exact G) c).mono ?_;rintro e X ⟨rfl,j⟩;unfold fS) | (go_at_call 161;refine(dB w[k].XU _ _ _ _ _ _ _ _).mono ?_;rintro e Y ⟨rfl,l⟩));go_roundg (w.length-(k+1))
   ·exact⟨k+1,K,by omega,rfl,by go_num,(C.o.XE j).XE l,E,(v.trans j).trans l⟩
   omega
  ·go_wp2_with (first | (go_at_call 98;refine(bF o b k w d _ (by exact G) c).mono ?_;rintro e X ⟨rfl,j⟩;unfold fS) | (go_at_call 161;refine(dB w[k].XU _ _ _ _ _ _ _ _).mono ?_;rintro e Y ⟨rfl,l⟩));have a:=j.trans l;refine(qE o b k w d _ (G.XE a) c R).mono ?_;rintro e w5 ⟨y,rfl,s,q,t⟩;have p:=(u.XE a).XE t;have T:=(u.XE a).lt;have F:y.XS≠some f.heap.size:=fun e=>by have:=q _ e;omega
   have C:Xr _:=(p.store (by rw[A.o,N]) c y s F);have D:=(v.trans a).trans t;have B:Xr (∀n x,(iJ K k y n).XS=some x->f.heap.size<=x):=by
    intro n x r;by_cases e:n=k
    ·subst e;rw[dI]at r;have:=q x r;omega
    ·rw[cd _ _ _ _ e]at r;exact E n x r
   have Z:=p.cell k c;have hf:=p.free;clear q s;go_wp2;go_roundg (w.length-(k+1))
   ·exact⟨k+1,iJ K k y,by omega,rfl,by go_num,C.o,B.o,D.sr1 (Tq _) _⟩
   omega
 ·have e:k=w.length:=by omega
  subst e;go_wp2;go_ret;exact⟨f.heap.size,K,rfl,u,Tq _,E,v⟩
def mF(vs:Xt)(x:Xs):Option Nat:=(List.range vs.length).find? (fun i=>(vs.getD i ⟨#[]⟩).toList==x.toList)
def tK(l:List Bool):List Value:=l.map bool
def qS(l:List Bool):eR:=⟨4,1,l.length,tK l⟩
structure lB(w:World)(tb:Nat)(vs:Xt)(ms:List Bool)(hv hm:Hd):Prop where
 XS:w.heap[tb]?=some (.cells #[slice hv.ao vs.length hv.cap,slice hm.ao ms.length hm.cap] 327)
 vars:aB w hv (aE vs)
 marks:aB w hm (qS ms)
 o1:hv.XS≠some tb
 o2:hm.XS≠some tb
 o3:hv.XS=none∨hv.XS≠hm.XS
theorem lB.cells(h:lB T n m z6 z2 z5):T.cell? ⟨n,0,none⟩=some (slice z2.ao m.length z2.cap)/\T.cell? ⟨n,1,none⟩=some (slice z5.ao z6.length z5.cap):=by
 refine⟨?_,?_⟩ <;> (rw[ah h.XS];rfl)
theorem lB.lt(h:lB T n m z6 z2 z5):n<T.heap.size:=aj h.XS
theorem lB.XR(h:lB T n m z6 z2 z5)(k:ae z7 T i)(c:n∉z7)(b:∀x,z2.XS=some x∨z5.XS=some x->x∉z7):lB i n m z6 z2 z5 :=
 ⟨k.get h.XS c,h.vars.XJ (fun x a=>k.block x (h.vars.lt a) (b x (TH a))),h.marks.XJ (fun x a=>k.block x (h.marks.lt a) (b x (TE a))),h.o1,h.o2,h.o3⟩
theorem lB.XE(h:lB T n m z6 z2 z5)(k:ae [] T i):lB i n m z6 z2 z5:=h.XR k (by simp) (by simp)
set_option maxRecDepth 512
theorem uj(h:lB f b S N g L)(B:S.length<=1073741824) :
  Calls prog 261 #[pointer (some ⟨b,0,none⟩),string z4] f fun e u=>e=returned (int i64 (oD (mF S z4)))/\u=f:=by
 obtain⟨r,v⟩:=h.cells;go_enter func261,ntmps261;go_wp2
 go_loopg [5] S.length (fun m i wr=>∃k:Nat,k<=S.length/\m=S.length-k/\i=int i64 k/\Xr (∀i,i<k->((S.getD i ⟨#[]⟩).toList==z4.toList)=false)/\wr=f)
 ·exact⟨0,by omega,by omega,rfl,fun i p=>by omega,rfl⟩
 obtain⟨k,A,z,rfl,a,rfl⟩:=hrel;by_cases c:k<S.length
 ·rcases h.vars.XP with ⟨_,t,_⟩ | ⟨m,s,l,-,x,-⟩
  ·have:S.length=0:=t;omega
  ·have w:=h.vars.cell l k (string S[k]) (uG S k c);rw[l]at r;have d:Xr _:=wL S k c;generalize S[k]=y at *;cases n:(y.toList==z4.toList)
   ·have q:Xr (∀i,i<k+1->((S.getD i ⟨#[]⟩).toList==z4.toList)=false):=by
     intro i p;by_cases e:i=k
     ·subst e;rw[d.o];exact n
     ·exact a.o i (by omega)
    clear d h;go_wp2;go_roundg (S.length-(k+1))
    ·exact⟨k+1,by omega,rfl,by go_num,q,rfl⟩
    omega
   ·have j:Xr (mF S z4=some k):=pb c (by rw[d.o];exact n) a.o;clear d h;go_wp2;go_ret;exact⟨au (by rw[j.o];rfl),rfl⟩
 ·have j:Xr (mF S z4=none):=nQ (fun i p=>a.o i (by omega));clear h;go_wp2;go_ret;exact⟨au (by rw[j.o];rfl),rfl⟩
def bM(vs ws:Xt):Xv:=ws.filterMap (mF vs)
theorem yj(h:v<l.length)(a:mF S l[v]=some H):bM S (l.take (v+1))=bM S (l.take v)++[H]:=by
 unfold bM;rw[pk l v h,Vx];simp[a]
theorem yi(h:H<l.length)(a:mF S l[H]=none):bM S (l.take (H+1))=bM S (l.take H):=by
 unfold bM;rw[pk l H h,Vx];simp[a]
theorem si:(bM l y9).length<=y9.length:=Wl _ _
set_option maxRecDepth 100000
theorem zq(h:lB f b S N y5 g)(hl:S.length<=1073741824)(M:kZ f L l)(P:l.length<=1000000) :
  Calls prog 239 #[pointer (some ⟨b,0,none⟩),slice L.ao l.length L.cap] f fun e w'=>∃d:Hd,e=returned (slice d.ao (bM S l).length d.cap)/\aB w' d (bD (bM S l))/\(∀x,d.XS=some x->f.heap.size<=x)/\ae [] f w':=by
 obtain⟨i0,hi,Q,R,T⟩:=TZ xO;obtain⟨ao,ac⟩:=L;rcases M with rfl | ⟨af,F,ad,t,X,e2,Y,e4,e5⟩
 ·clear P;go_enter func239,ntmps239;go_wp2;refine VB 1 ?_;rw[VT];go_wp2;go_ret;exact⟨⟨none,0⟩,rfl,Ty _ _ _ _,by intro x v;simp[Hd.XS]at v,ae.refl _ _⟩
 simp only at X;subst X;go_enter func239,ntmps239;go_wp2
 go_loopg [5,6] l.length (fun gk sv i wr=>∃(k:Nat) (d:Hd),k<=l.length/\gk=l.length-k/\i=int i64 k/\sv=slice d.ao (bM S (l.take k)).length d.cap/\aB wr d (bD (bM S (l.take k)))/\(∀x,d.XS=some x->f.heap.size<=x)/\ae [] f wr)
 ·exact⟨0,⟨none,0⟩,by omega,by omega,rfl,rfl,Ty _ _ _ _,by intro x v;simp[Hd.XS]at v,ae.refl _ _⟩
 obtain⟨k,d,hk,hg,rfl,rfl,C,G,A⟩:=hrel;have hr:=h.XE A;have ai:=si S (l.take k);have Z:(l.take k).length<=k:=by simp;omega
 by_cases s:k<l.length
 ·have c2:wr.cell? ⟨af,F+k,none⟩=some (string l[k]):=(ah (A.get e2 (by simp)) (F+k)).trans (Y k l[k] (Tn s))
  ·skip
   have W:=fun p=>yj S l k p s;have V:=yi S l k s;have r:Xr _:=W;have q:Xr _:=V;have U:=uj b S N y5 g l[k] wr hr hl;have c:Xr _:=U;clear W V U Y;generalize l[k]=y at *;rcases hp:mF S y with _ | p
   ·have w:Xr _:=q.o hp;rw[hp]at c;simp only[oD]at c;clear r q;go_wp2_with (go_at_call 261;refine Ts c.o ?_;rintro e w3 ⟨rfl,rfl⟩);go_roundg (l.length-(k+1))
    ·exact⟨k+1,d,by omega,rfl,by go_num,by rw[w.o],by rw[w.o];exact C,G,A⟩
    omega
   ·have w:Xr _:=r.o p hp;rw[hp]at c;simp only[oD]at c;have D:=C.XJ (fun x v=>((ae.refl [] wr).alloc (.cells #[int i64 p] 3)).block x (C.lt v) (by simp));clear r q;go_wp2_with (first | (go_at_call 261;refine Ts c.o ?_;rintro e w3 ⟨rfl,O⟩;rw[O]) | (at_builtin;refine aL _ rfl (.tmp 22) (.tmp 24) 24 rfl i0 (int i64 0) 8 d (bD (bM S (l.take k))) underlying24 hi Q R T rfl TR rfl (by exact D) ⟨_,0,none⟩ 1 1 [int i64 p] rfl rfl ?d1 ?d2 TR ?d3 ?d4 ?_))
    case d1=>intro j u H;match j,H with | 0,H=>simp at H;subst H;simp[Addr.add]
    case d2=>intro u hu;simp at hu;subst hu;rfl
    case d3=>simp only[bD];unfold maxLen;omega
    case d4=>simp only[bD];omega
    intro I z w5 E m a;rw[l4 (bM S (l.take k)) p,<-w.o]at E;have B:=A.alloc (.cells #[int i64 p] 3);have K:=B.grown m G;have ag:f.heap.size<=I:=by
     rcases a with e | e
     ·exact G I e
     ·have:=B.size;simp at e this;omega
    have J:Xr ((bD (bM S (l.take k))).n+1=(bM S (l.take (k+1))).length):=ci (by rw[w.o];simp[bD]);rw[J.o];clear m a D;go_wp2;go_roundg (l.length-(k+1))
    ·exact⟨k+1,⟨some ⟨I,0,none⟩,z⟩,by omega,rfl,by go_num,rfl,E,by intro x v;simp[Hd.XS]at v;omega,K⟩
    omega
 ·have e:k=l.length:=by omega
  subst e;rw[UO]at C ⊢;go_wp2;go_ret;exact⟨d,rfl,C,G,A⟩
def lk(side mi:Nat)(mem:Xv)(ms:List Bool):List Bool:=mem.foldl (fun ms mj=>ms.set (mi*side+mj) true) ms
def mB(side:Nat)(mem:Xv)(ms:List Bool):List Bool:=mem.foldl (fun ms mi=>lk side mi mem ms) ms
def j6(side:Nat)(mem:Xv)(ms:List Bool)(i j:Nat):List Bool:=lk side (mem.getD i 0) (mem.take j) ((mem.take i).foldl (fun ms mi=>lk side mi mem ms) ms)
theorem qM(b:Xv)(c:List Bool):(lk v H b c).length=c.length:=by
 unfold lk
 induction b generalizing c with
 | nil=>rfl
 | cons a r d=>rw[WN,d];simp
theorem ue(r:Xv)(c:List Bool):(r.foldl (fun c e=>lk b e x c) c).length=c.length:=by
 induction r generalizing c with
 | nil=>rfl
 | cons a r d=>rw[WN,d,qM]
theorem kH:(j6 b x zt v H).length=zt.length:=by
 unfold j6;rw[qM,ue]
theorem Dz(a:H<x.length):j6 b x zt v (H+1)=(j6 b x zt v H).set (x.getD v 0*b+x[H]) true:=by
 unfold j6 lk;rw[pk x H a,Vp];rfl
theorem FF(a:H<x.length):j6 b x zt H x.length=j6 b x zt (H+1) 0:=by
 have e:x.getD H 0=x[H]:=by rw[To,Tn a];rfl
 unfold j6;rw[UO,pk x H a,Vp,e];rfl
theorem FE:j6 b x zt x.length 0=mB b x zt:=by
 unfold j6 mB;rw[UO];rfl
theorem zJ:(tK zt).length=zt.length*1:=by simp[tK]
theorem lB.mark(h:lB T n m z6 z2 z5)(d:Nat)(e:z5.ao=some ⟨d,0,none⟩)(i:Nat)(t:i<z6.length) :
  lB (T.setCell ⟨d,i,none⟩ (bool true)) n m (z6.set i true) z2 z5:=by
 have k:z5.XS=some d:=by unfold Hd.XS;rw[e];rfl
 refine⟨?_,?_,?_,h.o1,h.o2,h.o3⟩
 ·rw[TM _ _ _ _ (by rintro rfl;exact h.o2 k),h.XS];simp
 ·refine h.vars.XJ (fun x j=>TM _ _ _ _ ?_);rintro rfl;rcases h.o3 with a | a
  ·rw[a]at j;cases j
  ·exact a (j.trans k.symm)
 ·rcases h.marks.XP with ⟨_,s,_⟩ | ⟨g,c,b,l,o,p,q,r⟩
  ·have:z6.length=0:=s;omega
  ·have:g=d:=(by rw[e]at b;injection b with b;injection b with b;exact b.symm);subst this;refine⟨by simp only[qS];rw[zJ],TE ⟨g,z5.cap,c.setIfInBounds i (bool true),?_,Uc _,ab l _ _,?_,p,?_,?_⟩⟩
   ·simp[qS,e]
   ·simpa [qS] using o
   ·simpa [qS] using q
   ·have f:c.toList.take (z6.length*1)=tK z6:=r;simp only[qS,List.length_set,Array.toList_setIfInBounds,List.take_set,f];simp[tK,List.map_set]
theorem mm(h:H<x.length):(kj x)[H]?=some (int i64 x[H]):=by simp[kj,h]
theorem Dw(h:lB f b S N y5 g)(Q:N.length=S.length*S.length)(T:S.length<=10000)(F:aB f L (bD x))(R:x.length<=1000000)(r:∀i (hi:i<x.length),x[i]<S.length)(A:∀l,L.XS=some l->g.XS≠some l) :
  Calls prog 238 #[pointer (some ⟨b,0,none⟩),slice L.ao x.length L.cap] f fun e w'=>e=returned (tuple #[])/\lB w' b S (mB S.length x N) y5 g/\fL (fun k=>g.XS=some k) f w':=by
 obtain⟨ao,m⟩:=L;rcases F.XP with ⟨e0,D,_⟩ | ⟨ag,ad,X,e2,Y,I,-⟩
 ·have z:x.length=0:=D;have P:x=[]:=Uf z;subst P;clear F D z e0 R r A;go_enter func238,ntmps238;go_wp2;refine VB 1 ?_;rw[VT];go_wp2;go_end0;exact⟨rfl,h,fL.refl _ _⟩
 simp only at X Y I;have ai:x.length<=m:=Y;have af:m<=9223372036854775807:=by unfold maxLen at I;exact I
 subst X;go_enter func238,ntmps238;go_wp2
 go_loopg [4] x.length (fun gk i wr=>∃k:Nat,k<=x.length/\gk=x.length-k/\i=int i64 k/\lB wr b S (j6 S.length x N k 0) y5 g/\fL (fun k=>g.XS=some k) f wr)
 ·exact⟨0,by omega,by omega,rfl,h,fL.refl _ _⟩
 obtain⟨k,hk,hg,rfl,E,M⟩:=hrel;by_cases d:k<x.length
 ·have HR:Xr _:=FF S.length x N k d;go_wp2_with fail
  go_loopg [5] x.length (fun J i2 B=>∃j:Nat,j<=x.length/\J=x.length-j/\i2=int i64 j/\lB B b S (j6 S.length x N k j) y5 g/\fL (fun k=>g.XS=some k) f B)
  ·exact⟨0,by omega,by omega,rfl,E,M⟩
  obtain⟨j,hj,an,rfl,a,n⟩:=hrel;clear E M;by_cases s:j<x.length
  ·have U:=r k d;have ar:=r j s;have p:aB wr ⟨some ⟨ag,0,none⟩,m⟩ (bD x):=F.XJ (fun l G=>n.block l (F.lt G) (fun e=>A l G e));have p1:=p.cell rfl k (int i64 x[k]) (mm x k d);have p2:=p.cell rfl j (int i64 x[j]) (mm x j s);obtain⟨c0,V⟩:=a.cells;rw[kH]at V;have H:=Dz S.length x N k j s;have Z:x.getD k 0=x[k]:=(by rw[To,Tn d];rfl);rw[Z]at H;have c:x[k]*S.length+x[j]<N.length:=by
    rw[Q];have:(x[k]+1)*S.length<=S.length*S.length:=Nat.mul_le_mul_right _ U;rw[WH]at this;omega
   have O:x[k]*S.length<=10000*10000:=VL (by omega) T;have t:Xr _:=(fun K e=>a.mark K e (x[k]*S.length+x[j]) (by rw[kH];exact c));have u:Xr _:=H;rcases a.marks.XP with ⟨_,D,_⟩ | ⟨K,W,C,v,w,-⟩
   ·have:(j6 S.length x N k j).length=0:=D;rw[kH]at this;omega
   ·have ac:N.length<=g.cap:=(by have:(j6 S.length x N k j).length<=g.cap:=w;rw[kH]at this;exact this);have al:=am v;have p3:=a.marks.cell C (x[k]*S.length+x[j]) (bool ((j6 S.length x N k j)[x[k]*S.length+x[j]]'(by rw[kH];exact c))) (by simp[qS,tK,kH,c]);rw[C]at V;clear H v w p;generalize (j6 S.length x N k j)[x[k]*S.length+x[j]]'(by rw[kH];exact c)=old at *;generalize G:x[k]=l at *;generalize hy:x[j]=y at *;obtain⟨q,hq⟩:∃q,l*S.length=q:=⟨_,rfl⟩
    have ap:(l:Int)*(S.length:Int)=(q:Int):=(by rw[<-hq];simp);rw[hq]at c O p3 t u;clear G hy Z;go_wp2_with fail;go_quiet (fail);go_wp2;go_roundg (x.length-(j+1))
    ·exact⟨j+1,by omega,rfl,by go_num,by rw[u.o];exact(t.o K C).XE (bR.drewN nq),(n.XE (bR.drewN nq)).setCell (TH (by unfold Hd.XS;rw[C];rfl)) _⟩
    omega
  ·have e:j=x.length:=(by omega);subst e;rw[HR.o]at a;go_wp2;go_roundg (x.length-(k+1))
   ·exact⟨k+1,by omega,rfl,by go_num,a,n⟩
   omega
 ·have e:k=x.length:=by omega
  subst e;rw[FE]at E;go_wp2;go_end0;exact⟨rfl,E,M⟩
def fH(side:Nat)(ms:List Bool)(i j:Nat):Bool:=!(i==j)&&ms.getD (i*side+j) false
theorem Av(b:n<y6)(c:a<y6):n*y6+a<y6*y6:=by
 have:(n+1)*y6<=y6*y6:=Nat.mul_le_mul_right _ b;rw[WH]at this;omega
set_option maxRecDepth 512
theorem zF(h:lB f b S N g L)(m:N.length=S.length*S.length)(n:S.length<=10000)(A:v<S.length)(B:H<S.length) :
  Calls prog 216 #[pointer (some ⟨b,0,none⟩),int i64 v,int i64 H] f fun e E=>e=returned (bool (fH S.length N v H))/\E=f:=by
 obtain⟨F,x⟩:=h.cells;have a:v*S.length+H<N.length:=by rw[m];exact Av A B
 have l:v*S.length<=10000*10000:=VL (by omega) n;rcases h.marks.XP with ⟨_,y,_⟩ | ⟨G,r,t,k,d,-⟩
 ·have:N.length=0:=y;omega
 ·have u:N.length<=L.cap:=d;have D:=h.marks.cell t (v*S.length+H) (bool N[v*S.length+H]) (by simp[qS,tK,a]);have s:N.getD (v*S.length+H) false=N[v*S.length+H]:=by rw[To,Tn a];rfl
  have i:Xr (fH S.length N v H=(!(v==H)&&N[v*S.length+H])):=ci (by unfold fH;rw[s]);rw[t]at x;generalize N[v*S.length+H]=p at *;obtain⟨q,w⟩:∃q,v*S.length=q:=⟨_,rfl⟩
  have C:(v:Int)*(S.length:Int)=(q:Int):=by rw[<-w];simp
  rw[w]at a l D;clear s k d h;by_cases c:v=H
  ·have z:((v:Int) != (H:Int))=false:=(by simp[c]);have j:Xr (fH S.length N v H=false):=ci (by rw[i.o];simp[c]);clear i;go_enter func216,ntmps216;go_wp2;go_ret;exact⟨aF j.o.symm,rfl⟩
  ·have z:((v:Int) != (H:Int))=true:=(by simp;omega);have j:Xr (fH S.length N v H=p):=ci (by rw[i.o];simp[c]);clear i;go_enter func216,ntmps216;go_wp2;go_ret;exact⟨aF j.o.symm,rfl⟩
def tQ(l:List St)(a n:Nat):Bool:=match l[n]? with | some s=>(s.XU==1)&&fE l n a | none=>false
theorem O3(h:H<w.length):tQ w v H=((w[H].XU==1)&&fE w H v):=by
 unfold tQ;rw[Tn h]
def dF(l:List St)(a:Nat)(vs:Xt):Nat->List Bool
 | 0=>List.replicate (vs.length*vs.length) false
 | k+1=>if tQ l a k=true then mB vs.length (bM vs (symsAt l k)) (dF l a vs k) else dF l a vs k
def gM(l:List St)(a:Nat)(vs:Xt):List Bool:=dF l a vs l.length
theorem mC(k:Nat):(dF w H y9 k).length=y9.length*y9.length:=by
 induction k with
 | zero=>simp[dF]
 | succ k a =>
  rw[dF];split
  ·unfold mB;rw[ue,a]
  ·exact a
theorem IJ(h:mF m yf=some n):n<m.length:=by
 have:=Us h;simpa using this
theorem uk(h:H<(bM S l).length):(bM S l)[H]<S.length:=by
 have a:=TP h;unfold bM at a;rw[VM]at a;obtain⟨x,_,b⟩:=a;exact IJ b
theorem Q5:(prog.info? 4).map (fun i=>(i.zero,i.size,i.bytes))=some (some (bool false),1,1):=by kernel_rfl
theorem Nm:madeCells #[y7] H=(List.replicate H y7).toArray:=by
 apply Array.ext
 ·rw[U7];simp
 ·intro i a b;have h:i<H:=by rw[U7]at a;exact a
  have:=BA y7 H i h;rw[Array.getElem?_eq_getElem a]at this;simp at this ⊢;exact this
theorem ae.ofP(K:ae [] T i)(g:fL ya i yd)(b:∀k,ya k->T.heap.size<=k):ae [] T yd :=
 ⟨g.os.trans K.os,g.tape.trans K.tape,g.output.trans K.output,TF K.size g.size,fun k a _=>(g.block k (Tw a K.size) (fun e=>by have:=b k e;omega)).trans (K.block k a (by simp))⟩
set_option maxRecDepth 100000
theorem Mi(h:fM f M o w d)(ok:jV w)(hO:aB f L (aE l))(K:l.length<=10000) :
  Calls prog 210 #[pointer (some ⟨M,o,none⟩),int i64 b,slice L.ao l.length L.cap] f fun e w'=>∃(tb:Nat) (u t:Hd),e=returned (pointer (some ⟨tb,0,none⟩))/\lB w' tb l (gM w b l) u t/\f.heap.size<=tb/\(∀x,u.XS=some x∨t.XS=some x->f.heap.size<=x)/\ae [] f w':=by
 obtain⟨i0,hi,a0,Z,a1⟩:=TZ kg;obtain⟨i1,ap,az,aS,aT⟩:=TZ Q5;have a2:=ok.len;obtain⟨q,hq⟩:∃q,l.length*l.length=q:=⟨_,rfl⟩
 have a6:(l.length:Int)*(l.length:Int)=(q:Int):=by rw[<-hq];simp
 have a7:q<=10000*10000:=by rw[<-hq];exact VL K K
 have m1:=fun f=>dG (P:=prog) f 61 9 i0 _ underlying61 hi a0 l.length 1 Z (by rw[a1];omega) (by omega);have m2:=fun f=>dG (P:=prog) f 134 4 i1 _ underlying134 ap az q 1 aS (by rw[aT];omega) (by omega);obtain⟨A,m⟩:∃mc,mc=madeCells (string ⟨#[]⟩).cells (l.length*1):=⟨_,rfl⟩
 obtain⟨s,p⟩:∃mc,mc=madeCells (bool false).cells (q*1):=⟨_,rfl⟩
 have z1:A.size=l.length*1:=by rw[m,U7]
 have R:Xr (s=(tK (dF w b l 0)).toArray):=by
  show _=_;rw[p,Xw,<-hq];have:(bool false).cells=#[bool false]:=rfl;rw[this,Nm];simp[dF,tK]
 rw[<-m]at m1;rw[<-p]at m2;clear m p;have K2:ae [] f (f.alloc (.cells A 9)):=bR.alloc _;have B:Xr ((prog.info? (aE l).e).map (·.size)=some (aE l).size):=ci (by simp[aE,hi,Z]);obtain⟨g,S,E,W,ac⟩:=rm (P:=prog) (f.alloc (.cells A 9)) 61 61 3 f.heap.size l.length L (aE l) A 9 underlying61 B.o (Tu _ _) (hO.XJ (fun x v=>K2.block x (hO.lt v) (by simp))) z1 (mM _);simp only[aE]at S E;have C:g.heap.size=f.heap.size+1:=by rw[ac];simp
 have K3:ae [] f g:=((K2.mono (S':=[f.heap.size]) (by simp)).trans W).mono (by simp);obtain⟨W4,c⟩:∃W4,W4=(g.alloc (.cells s 4)).alloc (.cells #[slice (some ⟨f.heap.size,0,none⟩) l.length l.length,slice (some ⟨g.heap.size,0,none⟩) q q] 327):=⟨_,rfl⟩
 have K4:ae [] f W4:=by rw[c];exact(K3.alloc _).alloc _
 have H:Xr (q=(dF w b l 0).length):=ci (by rw[mC,hq]);have A4:lB W4 (g.heap.size+1) l (dF w b l 0) ⟨some ⟨f.heap.size,0,none⟩,l.length⟩ ⟨some ⟨g.heap.size,0,none⟩,q⟩:=by
  refine⟨?_,?_,?_,?_,?_,?_⟩
  ·rw[c,<-H.o];have:=Tu (g.alloc (.cells s 4)) (.cells #[slice (some ⟨f.heap.size,0,none⟩) l.length l.length,slice (some ⟨g.heap.size,0,none⟩) q q] 327);simpa using this
  ·refine aB.made (r:=aE l) ?_ (Em _) (by simp only[aE];unfold maxLen;omega);rw[c];exact((bR.alloc _).alloc _).get E (by simp)
  ·have e:(⟨some ⟨g.heap.size,0,none⟩,q⟩:Hd)=⟨some ⟨g.heap.size,0,none⟩,(qS (dF w b l 0)).n⟩:=(by rw[H.o];rfl);rw[e];refine aB.made (r:=qS (dF w b l 0)) ?_ (zJ _) (by simp only[qS];rw[<-H.o];unfold maxLen;omega);rw[c];have:=((ae.refl [] (g.alloc (.cells s 4))).alloc (.cells #[slice (some ⟨f.heap.size,0,none⟩) l.length l.length,slice (some ⟨g.heap.size,0,none⟩) q q] 327)).get (Tu g (.cells s 4)) (by simp);rw[this,R.o];rfl
  ·intro e;simp[Hd.XS]at e;omega
  ·intro e;simp[Hd.XS]at e
  ·right;intro e;simp[Hd.XS]at e;omega
 have D:Xr _:=c.symm;rw[C]at D A4;clear c W E R K2 hO B z1 ac;obtain⟨u,G⟩:∃u:Hd,u=⟨some ⟨f.heap.size,0,none⟩,l.length⟩:=⟨_,rfl⟩
 obtain⟨t,F⟩:∃t:Hd,t=⟨some ⟨f.heap.size+1,0,none⟩,q⟩:=⟨_,rfl⟩
 rw[<-G,<-F]at A4;have HB:Xr (∀x,u.XS=some x∨t.XS=some x->f.heap.size<=x/\x<=f.heap.size+1):=by
  intro x v;rw[G,F]at v;simp[Hd.XS]at v;omega
 clear G F;go_enter func210,ntmps210;go_upto_region 4 with fail
 rw[D.o];clear D m1 m2 S K3 C;go_wp2
 go_loopg [9] w.length (fun gk i wr=>∃k:Nat,k<=w.length/\gk=w.length-k/\i=int i64 k/\lB wr (f.heap.size+1+1) l (dF w b l k) u t/\ae [] f wr)
 ·exact⟨0,by omega,by omega,rfl,A4,K4⟩
 obtain⟨k,hk,hg,rfl,T,U⟩:=hrel;have I:=h.XE U;have a3:=T.lt;clear A4 K4;by_cases a:k<w.length
 ·have N:Xr _:=O3 w b k a;have ba:=ok.syms k a;have a4:=ok.pos k a;have SY:Xr (symsAt w k=w[k].Xz):=pi w k a;have O:Xr (dF w b l (k+1)=if tQ w b k=true then mB l.length (bM l (symsAt w k)) (dF w b l k) else dF w b l k):=rfl;cases Y:(w[k].XU==1)
  ·have Q:Xr (dF w b l (k+1)=dF w b l k):=(by show _=_;rw[O.o,N.o,Y];simp);clear N O SY;go_wp2_with (first | (go_at_call 81;refine(fa M o w d _ (by exact I)).mono ?_;rintro e wc ⟨rfl,rfl⟩) | (go_at_call 98;refine(bF M o k w d _ (by exact I) a).mono ?_;rintro e w5 ⟨rfl,j⟩;unfold fS));go_roundg (w.length-(k+1))
   ·exact⟨k+1,by omega,rfl,by go_num,by rw[Q.o];exact(T.XE j).XE (bR.alloc _),(U.trans j).alloc _⟩
   omega
  ·go_wp2_with (first | (go_at_call 81;refine(fa M o w d _ (by exact I)).mono ?_;rintro e wc ⟨rfl,ax⟩;rw[ax]) | (go_at_call 98;refine(bF M o k w d _ (by exact I) a).mono ?_;rintro e w5 ⟨rfl,j⟩;unfold fS));obtain⟨W6,z⟩:∃W6,W6=w5.alloc (.cells #[int i64 w[k].XU,string w[k].XV,slice (d (10+2*k)).ao w[k].Xz.length (d (10+2*k)).cap,slice (d (11+2*k)).ao w[k].XK.length (d (11+2*k)).cap,string w[k].XY.XZ,int i64 w[k].XY.X0,int i64 w[k].XY.X3,int i64 w[k].til] 158):=⟨_,rfl⟩
   rw[<-z];have k6:ae [] wr W6:=by rw[z];exact j.alloc _
   have B6:=f9 z.symm;obtain⟨-,-,q2,-⟩:=wt B6;have J:=I.XE k6;have y:=T.XE k6;have V:=U.trans k6;have an:=(J.XQ.syms k w[k] (Tn a)).view;clear z j k6 B6 I T U;cases hh:fE w k b
   ·have Q:Xr (dF w b l (k+1)=dF w b l k):=(by show _=_;rw[O.o,N.o,hh];simp);clear N O SY;go_wp2_with (go_at_call 188;refine(iy M o k b w d _ (by exact J) a).mono ?_;rintro e w7 ⟨rfl,rfl⟩);go_roundg (w.length-(k+1))
    ·exact⟨k+1,by omega,rfl,by go_num,by rw[Q.o];exact y,V⟩
    omega
   ·have Q:Xr (dF w b l (k+1)=mB l.length (bM l w[k].Xz) (dF w b l k)):=(by show _=_;rw[O.o,N.o,Y,hh,SY.o];simp);clear N O SY;go_wp2_with (first | (go_at_call 188;refine(iy M o k b w d _ (by exact J) a).mono ?_;rintro e w7 ⟨rfl,av⟩;rw[av]) | (go_at_call 239;refine(zq (f.heap.size+1+1) l (dF w b l k) u t (d (10+2*k)) w[k].Xz _ (by exact y) (by omega) (by exact an) (by omega)).mono ?_;rintro e w8 ⟨hd,rfl,al,ai,X⟩));have ad:=y.XE X;have a5:=si l w[k].Xz
    refine(Dw (f.heap.size+1+1) l (dF w b l k) u t hd (bM l w[k].Xz) _ ad (mC _ _ _ _) K al (by omega) (fun i hi=>uk l w[k].Xz i hi) (by
     intro x v e;have h1:=ai x v;have h2:=HB.o x (TE e);have h3:=y.lt
     omega)).mono ?_
    rintro e w9 ⟨rfl,af,ar⟩;have ag:=(V.trans X).ofP ar (fun x v=>(HB.o x (TE v)).1);go_wp2;go_roundg (w.length-(k+1))
    ·exact⟨k+1,by omega,rfl,by go_num,by rw[Q.o];exact af,ag⟩
    omega
 ·have e:k=w.length:=by omega
  subst e;go_wp2_with (go_at_call 81;refine(fa M o w d _ (by exact I)).mono ?_;rintro e wc ⟨rfl,rfl⟩);go_ret;exact⟨f.heap.size+1+1,u,t,rfl,T,by omega,fun x v=>(HB.o x v).1,U⟩
structure bG(w:World)(b t:Nat)(cs:List Value)(rows:Nat->eR)(H:Nat->Hd):Prop where
 XS:w.heap[b]?=some (.cells cs.toArray t)
 X9:∀i,aB w (H i) (rows i)
 apart:∀i j,i≠j->(H i).XS=none∨(H i).XS≠(H j).XS
 off:∀i,(H i).XS≠some b
theorem bG.lt(h:bG T n a z0 z3 y):n<T.heap.size:=aj h.XS
theorem bG.inlt(h:bG T n a z0 z3 y)(c:ik y y6):y6<T.heap.size:=by
 obtain⟨i,b⟩:=c;exact(h.X9 i).lt b
theorem bG.free(h:bG T n a z0 z3 y)(i:Nat):T.frozen? ⟨n,i,none⟩=false:=am h.XS i
theorem bG.cell(h:bG T n a z0 z3 y)(i:Nat):T.cell? ⟨n,i,none⟩=z0[i]?:=by rw[ah h.XS];simp
theorem bG.keptP(h:bG T n a z0 z3 y)(d:fL ya T i)(e:¬ya n)(f:∀k,ik y k->¬ya k):bG i n a z0 z3 y :=
 ⟨d.get h.XS e,fun c=>(h.X9 c).XJ (fun k b=>d.block k ((h.X9 c).lt b) (f k ⟨c,b⟩)),h.apart,h.off⟩
theorem bG.XR(h:bG T n a z0 z3 y)(c:ae z7 T i)(b:n∉z7)(e:∀k,ik y k->k∉z7):bG i n a z0 z3 y :=
 h.keptP (c.toP (P:=(·∈z7)) (fun _ d _=>d)) b e
theorem bG.XE(h:bG T n a z0 z3 y)(b:ae [] T i):bG i n a z0 z3 y:=h.XR b (by simp) (by simp)
theorem bG.put{rows':Nat->eR}(h:bG T n a z0 z3 y)(c d:Nat)(p:Hd)(E:aB i p (rows' d))(s:T.grownBy i (y d).XS)(b:p.XS=none∨p.XS=(y d).XS∨∃g,p.XS=some g/\T.heap.size<=g)(w:∀j,j≠d->rows' j=z3 j)(u:Value) :
  bG (i.setCell ⟨n,c,none⟩ u) n a (z0.set c u) rows' (iJ y d p)/\aD n T y (i.setCell ⟨n,c,none⟩ u) (iJ y d p):=by
 have D:=h.lt;have z:i.heap[n]?=some (.cells z0.toArray a):=(s.block n D (fun e=>h.off d e.symm)).trans h.XS;have r:∀j,(iJ y d p j).XS≠some n:=by
  intro j;by_cases e:j=d
  ·subst e;rw[dI];intro t;rcases b with b | b | ⟨g,b,m⟩
   ·rw[b]at t;cases t
   ·exact h.off j (b ▸ t)
   ·rw[b]at t;cases t;omega
  ·rw[cd _ _ _ _ e];exact h.off j
 refine⟨⟨?_,?_,?_,r⟩,⟨s.os,s.tape,s.output,by have:=s.size;simp[World.setCell];omega,?_⟩,?_⟩
 ·rw[ab z,Uu]
 ·intro j;have q:aB i (iJ y d p j) (rows' j):=by
   by_cases e:j=d
   ·subst e;rw[dI];exact E
   ·rw[cd _ _ _ _ e,w j e];refine(h.X9 j).XJ (fun k f=>s.block k ((h.X9 j).lt f) ?_);intro v;rcases h.apart j d e with x | x
    ·rw[x]at f;cases f
    ·exact x (f.trans v)
  refine q.XJ (fun k f=>TM _ _ _ _ ?_);rintro rfl;exact r j f
 ·intro j l o;by_cases e:j=d
  ·subst e;rw[dI,cd _ _ _ _ (fun e=>o e.symm)];rcases b with b | b | ⟨g,b,m⟩
   ·exact TH b
   ·rw[b];exact h.apart j l o
   ·right;rw[b];intro v;have:=(h.X9 l).lt v.symm;omega
  ·rw[cd _ _ _ _ e];by_cases A:l=d
   ·subst A;rw[dI];rcases b with b | b | ⟨g,b,m⟩
    ·rw[b];cases (y j).XS <;> simp
    ·rw[b];exact h.apart j l o
    ·cases t:(y j).XS with
     | none=>exact TH rfl
     | some k=>right;rw[b];intro v;cases v;have:=(h.X9 j).lt t;omega
   ·rw[cd _ _ _ _ A];exact h.apart j l o
 ·intro k f C;rw[TM _ _ _ _ (fun e=>C (TH e))];exact s.block k f (fun e=>C (TE ⟨d,e.symm⟩))
 ·intro k f;obtain⟨j,e⟩:=f;by_cases B:j=d
  ·subst B;rw[dI]at e;rcases b with b | b | ⟨g,b,m⟩
   ·rw[b]at e;cases e
   ·exact TH ⟨j,b ▸ e⟩
   ·rw[b]at e;cases e;exact TE m
  ·rw[cd _ _ _ _ B]at e;exact TH ⟨j,e⟩
theorem bG.set(h:bG T n a z0 z3 y)(c:Nat)(u:Value) :
  bG (T.setCell ⟨n,c,none⟩ u) n a (z0.set c u) z3 y/\aD n T y (T.setCell ⟨n,c,none⟩ u) y:=by
 refine⟨⟨?_,?_,h.apart,h.off⟩,(fL.refl _ _).setCell (TH (TH rfl)) _,fun _ b=>TH b⟩
 ·rw[ab h.XS,Uu]
 ·intro j;refine(h.X9 j).XJ (fun k b=>TM _ _ _ _ ?_);rintro rfl;exact h.off j b
theorem bG.app{cs':List Value}{rows':Nat->eR}(h:bG T n a z0 z3 y)(c f g b m:Nat)(r:eR)(o:aB i ⟨some ⟨g,0,none⟩,b⟩ r)(t:r=rows' f)(k:T.grownBy i (y f).XS)(d:(y f).XS=some g∨T.heap.size<=g)(l:∀j,j≠f->rows' j=z3 j)(q:Value)(u:z0[c]?=some q)(s:z0.set c (slice (some ⟨g,0,none⟩) m b)=cs') :
  i.cell? ⟨n,c,none⟩=some q/\i.frozen? ⟨n,c,none⟩=false /\
  Xr (bG (i.setCell ⟨n,c,none⟩ (slice (some ⟨g,0,none⟩) m b)) n a cs' rows' (iJ y f ⟨some ⟨g,0,none⟩,b⟩) /\
   aD n T y (i.setCell ⟨n,c,none⟩ (slice (some ⟨g,0,none⟩) m b)) (iJ y f ⟨some ⟨g,0,none⟩,b⟩)):=by
 have p:=(k.block n h.lt (fun e=>h.off f e.symm)).trans h.XS;subst t;subst s;refine⟨by rw[ah p];simpa using u,am p _,?_⟩;exact h.put (rows':=rows') c f ⟨some ⟨g,0,none⟩,b⟩ o k
  (by
    rcases d with e | e
    ·exact TE (TH e.symm)
    ·exact TE (TE ⟨g,rfl,by simpa using e⟩)) l _
structure QR(w:World)(b o g:Nat)(L:List Rw):Prop where
 cell:∃arr t,w.heap[b]?=some (.cells arr t)/\arr[o+2]?=some (slice (some ⟨g,0,none⟩) L.length L.length)
 arr:w.heap[g]?=some (.cells (lH L).toArray 38)
structure kD where
 XU:Int
 XA:Nat
 at_:Pl
def lO(s:kD):List Value:=[int i64 s.XU,int i64 s.XA,string s.at_.XZ,int i64 s.at_.X0,int i64 s.at_.X3]
def yK(l:List kD):List Value:=l.flatMap lO
def gu(l:List kD):eR:=⟨174,5,l.length,yK l⟩
theorem vw(l:List kD)(s:kD):(⟨(gu l).e,(gu l).size,(gu l).n+1,(gu l).xs++lO s⟩:eR)=gu (l++[s]):=by simp[gu,yK]
theorem vB(s:kD):∀u∈lO s,u.oneCell'=true:=by
 intro u a;simp only[lO,List.mem_cons,List.not_mem_nil,or_false]at a;rcases a with rfl | rfl | rfl | rfl | rfl <;> rfl
theorem QJ:(prog.info? 174).map (fun i=>(i.zero,i.size,i.bytes))=some (some (agg #[int i64 0,int i64 0,string ⟨#[]⟩,int i64 0,int i64 0]),5,48):=by kernel_rfl
structure lC where
 XX:Xv
 XM:Xv
 steps:List kD
 XG:Nat
 behind:Bool
def yw(c:lC):Nat->eR
 | 0=>bD c.XX
 | 1=>bD c.XM
 | 2=>gu c.steps
 | _+3=>bD []
def md(c:lC)(H:Nat->Hd):List Value :=
 [slice (H 0).ao c.XX.length (H 0).cap,slice (H 1).ao c.XM.length (H 1).cap,slice (H 2).ao c.steps.length (H 2).cap,int i64 c.XG,bool c.behind]
def eI(w:World)(b:Nat)(c:lC)(H:Nat->Hd):Prop:=bG w b 279 (md c H) (yw c) H
theorem eI.cells{c:lC}(h:eI T n c y) :
  T.cell? ⟨n,0,none⟩=some (slice (y 0).ao c.XX.length (y 0).cap)/\T.cell? ⟨n,1,none⟩=some (slice (y 1).ao c.XM.length (y 1).cap)/\T.cell? ⟨n,2,none⟩=some (slice (y 2).ao c.steps.length (y 2).cap) /\
  T.cell? ⟨n,3,none⟩=some (int i64 c.XG)/\T.cell? ⟨n,4,none⟩=some (bool c.behind) :=
 ⟨bG.cell h 0,bG.cell h 1,bG.cell h 2,bG.cell h 3,bG.cell h 4⟩
structure jo(c:lC)(N:Nat):Prop where
 XX:c.XX.length<=N
 XM:c.XM.length<=N
 steps:c.steps.length<=N
 XG:c.XG<=10*N+5
 behind:c.behind=true->0<c.steps.length
def dP(c:lC)(s:kD):lC:={ c with steps:=c.steps++[s],behind:=false }
theorem qt(c:lC)(i:Nat->Hd)(k:Int)(n:Nat)(f:Xs)(l b:Int)(w:World)(h:eI w H c i)(Z:jo c 10000000) :
  Calls prog 245 #[pointer (some ⟨H,0,none⟩),agg #[int i64 k,int i64 n,string f,int i64 l,int i64 b]] w fun e I=>e=returned (tuple #[])/\∃x,eI I H (dP c ⟨k,n,⟨f,l,b⟩⟩) x/\aD H w i I x/\∀j,j≠2->x j=i j:=by
 obtain⟨X,T,C,D,E⟩:=TZ QJ;have V:=Z.steps;obtain⟨W,v⟩:∃W,W=w.alloc (.cells #[int i64 k,int i64 n,string f,int i64 l,int i64 b] 174):=⟨_,rfl⟩
 have K:=fI v.symm;have y:eI W H c i:=bG.XE h K;have B:=f9 v.symm;obtain⟨y0,y1,y2,y3,y4⟩:=od B;obtain⟨L,M,N,O,P⟩:=y.cells;clear L M O;have R:=bG.lt y;have G:Xr (eI (W.alloc (.cells #[int i64 k,int i64 n,string f,int i64 l,int i64 b] 174)).drew H c i):=bG.XE y ((ae.refl [] W).alloc _).drew;have s2:Xr (∀j u,(lO ⟨k,n,⟨f,l,b⟩⟩)[j]?=some u->(W.alloc (.cells #[int i64 k,int i64 n,string f,int i64 l,int i64 b] 174)).drew.cell? ((⟨W.heap.size,0,none⟩:Addr).add j)=some u):=by
  intro j u q;have U:(W.alloc (.cells #[int i64 k,int i64 n,string f,int i64 l,int i64 b] 174)).drew.heap[W.heap.size]?=some (.cells #[int i64 k,int i64 n,string f,int i64 l,int i64 b] 174):=Tu _ _;rw[bY,ah U];simpa [lO] using q
 have s4:Xr ((gu c.steps).n+1<=maxLen):=by show _<=_;simp only[gu];unfold maxLen;omega
 have s5:Xr (((gu c.steps).n+1)*48<=140737488355328):=by show _<=_;simp only[gu];omega
 have J:Xr _:=v.symm;have A:Xr (∀j,j≠2->yw { c with steps:=c.steps++[⟨k,n,⟨f,l,b⟩⟩] } j=yw c j):=by
  intro j q
  match j,q with
  | 0,_=>rfl
  | 1,_=>rfl
  | 2,q=>exact absurd rfl q
  | m+3,_=>rfl
 clear v B h;go_enter func245,ntmps245;go_upto_region 1 with fail
 rw[J.o];go_region_law (refine dd rfl (.tmp 8) (.tmp 10) 163 rfl X (agg #[int i64 0,int i64 0,string ⟨#[]⟩,int i64 0,int i64 0]) 48 (i 2) (gu c.steps) underlying163 T C D E rfl (WS 4) (by simp[Act.eval] <;> rfl) (bG.X9 G.o 2) ⟨W.heap.size,0,none⟩ 1 1 (lO ⟨k,n,⟨f,l,b⟩⟩) (by simp[Act.eval]) rfl s2.o (vB _) TR s4.o s5.o ?_;intro g p w1 s r a;obtain⟨Y,Q,t⟩:=bG.app G.o (cs':=md { c with steps:=c.steps++[⟨k,n,⟨f,l,b⟩⟩] } (iJ i 2 ⟨some ⟨g,0,none⟩,p⟩)) (rows':=yw { c with steps:=c.steps++[⟨k,n,⟨f,l,b⟩⟩] }) 2 2 g p ((gu c.steps).n+1) _ s (vw c.steps ⟨k,n,⟨f,l,b⟩⟩) r (by simpa using a) A.o (slice (i 2).ao c.steps.length (i 2).cap) rfl (by simp[md,iJ,gu]);clear s r a)
 all_goals
  have F:Xr _:=bG.set t.o.1 4 (bool false);have z:=(bG.cell t.o.1 4);have S:=bG.free t.o.1;simp only[md,List.getElem?_cons_succ,List.getElem?_cons_zero]at z;clear N P y0 y1 y2 y3 y4 Y Q;go_wp2;go_end0;exact⟨rfl,_,F.o.1,((t.o.2.first (bR.alloc _).drew).first K).trans F.o.2,fun j q=>cd _ _ _ _ q⟩
end Go.Proofs.YtnbhnocdhbcbcaaGreat
