import Derived.Test.YtnbalopedcgpcaaGreatG22
namespace Go.Proofs.YtnbalopedcgpcaaGreat
open Go.RowKit Tryz
open Value renaming int->Xx,string->Xy,slice->Xz,pointer->XA,agg->XB,bool->XC,tuple->XD
open Obj renaming cells->XE
open IntKind renaming i64->XF
open Ending renaming returned->XH
open World renaming cell?->XI
open Option renaming none->XJ,some->XK
open Bool renaming true->XL,false->XM
open Go.RowKit renaming Hid->XN
open Go renaming Calls->XO,World->XP
set_option maxHeartbeats 0
variable{d D:XP}{l n k i:Nat}{T:ByteArray}{S:List ByteArray}{w:Db}{y:List St}{L:ByteArray->Prop}(H:List St)(x b:Nat)(v:ByteArray)(a:List St)(o:List ByteArray)(f:ByteArray)
def GX(w w':XP)(x:Nat)(fs':Fs)(l:List St):Prop:=∃H g,fB w' x fs' l H g/\w.heap.size<=g/\∀k,cD H k->w.heap.size<=k
def Eq(b x:Nat)(T:ByteArray)(o:Option Nat)(fs':Fs)(r ln cl:Int)(l:List St)(w:XP)(e:Ending)(w':XP):Prop :=
  rX b x T o fs' r ln cl l w e w'/\((r==0)=XL->GX w w' x fs' l)
set_option maxRecDepth 100000
theorem Gl(o:Option Nat)(fs a:Fs)(r ln cl:Int)(l:List St)(w:XP)(hW:aR w x b v o)(hV:br w b fs)(hx:b≠x)(ht:¬1024<f.size)(hp:iU fs ⟨#[109]⟩ f=(0,a))(ai:l.length<=10000)(VF:∀V,br V b a->XO prog 32 #[XA (XK ⟨b,0,XJ⟩),Xy ⟨#[109]⟩] V fun e X =>
      (if(r==0)=XL then e=XH (XD #[XB #[Xx XF 0,Xy ⟨#[]⟩,Xx XF 0,Xx XF 0],Xx XF 0])/\∃H g,fB X b a l H g/\V.heap.size<=g/\∀k,cD H k->V.heap.size<=k
       else e=XH (XD #[XB #[Xx XF r,Xy ⟨#[109]⟩,Xx XF ln,Xx XF cl],Xx XF 6])/\fw X b a)/\aa [b] V X) :
    XO prog 29 #[XA (XK ⟨x,0,XJ⟩),Xy f] w fun e V=>Eq x b v o a r ln cl l w e V:=by
  have bq:=hW.lt;have b0:=hV.lt;obtain⟨c0,c1,-⟩:=hW.cells;obtain⟨W,n⟩:∃W,W=(w.alloc (XE #[Xz XJ 0 0,Xx XF 0,Xy ⟨#[]⟩,Xx XF 0,Xx XF 0,Xx XF 0] 87)).alloc (XE #[Xz XJ 0 0,Xx XF 0,Xy ⟨#[]⟩,Xx XF 0,Xx XF 0,Xx XF 0] 87):=⟨_,rfl⟩
  have m:aa [] w W:=by rw[n];exact((aa.refl _ _).alloc _).alloc _
  have s0:W.heap[w.heap.size]?=XK (XE #[Xz XJ 0 0,Xx XF 0,Xy ⟨#[]⟩,Xx XF 0,Xx XF 0,Xx XF 0] 87):=by
    rw[n];exact((aa.refl [] _).alloc _).get (Pz _ _) (by simp)
  have s1:W.heap[w.heap.size+1]?=XK (XE #[Xz XJ 0 0,Xx XF 0,Xy ⟨#[]⟩,Xx XF 0,Xx XF 0,Xx XF 0] 87):=by
    rw[n];have e:(w.alloc (XE #[Xz XJ 0 0,Xx XF 0,Xy ⟨#[]⟩,Xx XF 0,Xx XF 0,Xx XF 0] 87)).heap.size=w.heap.size+1:=by simp
    rw[<-e];exact Pz _ _
  have HW:XN _:=n.symm;have PF:=pK b ⟨#[109]⟩ f fs W (hV.kept m (by simp)) (by simp[ByteArray.size]) (by omega);rw[hp]at PF;have a5:XN _:=PF;have a9:XN _:=VF;clear PF n hp VF;have bk:w.heap.size≠b:=by omega
  have bl:w.heap.size+1≠b:=by omega
  have d:b∉[w.heap.size,w.heap.size+1]:=by simp;omega
  have D:x∉[w.heap.size,w.heap.size+1]:=by simp;omega
  have ap:=hW.rows.lt;have z:XN (∀g,o=XK g->g∉[w.heap.size,w.heap.size+1]):=fun g N=>by have:=ap g N;simp;omega
  clear ap;have bx:=fun(wx:XP)=>Lib.run_eql_slice_nil (P:=prog) wx 49 69 XJ 0 0 0 0 underlying49;have bd:XN (aR W x b v o):=hW.Ug m;clear hW;go_enter func29,ntmps29;go_wp2_with fail;rw[HW.out];refine PE a5.out ?_;rintro e w2 ⟨rfl,-,B,j⟩;have B:=B trivial;have E:=j.get s0 (by simp;omega);have F:=j.get s1 (by simp;omega);have L:XN (aR w2 x b v o):=bd.out.keptX j hx;have G:aa [b] w w2:=(m.mono (by simp)).trans j;obtain⟨y0,y1,y2,y3,y4,y5⟩:=bG E;obtain⟨z0,z1,z2,z3,z4,z5⟩:=bG F;have f0:=aw E;have f1:=aw F;clear c0 c1;obtain⟨c0,c1,-⟩:=L.out.cells;have bg:=L.out.lt;have bw:=j.size;have bo:=ae s1;have J:XN (∀aq,fw (w2.setCell ⟨w.heap.size+1,5,XJ⟩ aq) b a):=fun aq=>B.kept (S:=[w.heap.size,w.heap.size+1]) ((aa.refl _ _).setCell (PI (by simp)) _) d;go_wp2_with (go_at_call 33;refine(kT b a _ (by exact J.out _)).mono ?_;rintro e Y ⟨rfl,rfl⟩);refine PE (a9.out _ (by exact(J.out _).anyR)) ?_;rintro e y ⟨c,s⟩;have t:=s.get ((PM w2 ⟨w.heap.size+1,5,XJ⟩ (Xx XF 0) w.heap.size (by simp)).trans E) (by simp;omega);have u:y.heap[w.heap.size+1]?=XK (XE #[Xz XJ 0 0,Xx XF 0,Xy ⟨#[]⟩,Xx XF 0,Xx XF 0,Xx XF 0] 87):=s.get ((af F 5 (Xx XF 0)).trans (by simp)) (by simp;omega);have A:XN (aR y x b v o):=(L.out.kept (S:=[w.heap.size,w.heap.size+1]) ((aa.refl _ _).setCell (PI (by simp)) _) D z.out).keptX s hx;have Q:aa [b] w y:=(G.setCell (PK (by simp)) _).trans s;have b1:=ae u;have am:=ae t;have bp:=A.out.lt;clear y0 y1 y2 y3 y4 y5 z0 z1 z2 z3 z4 z5 f0 f1 c0 c1 E F s0 s1 G j s J B;obtain⟨y0,y1,y2,y3,y4,y5⟩:=bG t;obtain⟨z0,z1,z2,z3,z4,z5⟩:=bG u;have f0:=aw t;have f1:=aw u;obtain⟨c0,c1,-⟩:=A.out.cells;cases Z:(r==0)
  · simp only[Z,Bool.false_eq_true,if_false]at c
    obtain⟨rfl,ad⟩:=c;have bv:(r != 0)=XL:=(by simp[bne,Z]);have HB:XN (∀a0 a1 a2 a3 a4 I,fw ((((((y.setCell ⟨w.heap.size+1,1,XJ⟩ a0).setCell ⟨w.heap.size+1,2,XJ⟩ a1).setCell ⟨w.heap.size+1,3,XJ⟩ a2).setCell ⟨w.heap.size+1,4,XJ⟩ a3).setCell ⟨w.heap.size+1,5,XJ⟩ a4).alloc I) b a):=fun a0 a1 a2 a3 a4 I=>ad.kept (d6 (aa.refl [w.heap.size,w.heap.size+1] y) (PI (by simp)) _ _ _ _ _ _) d;go_wp2_with (go_at_call 33;refine(kT b a _ (by exact HB.out _ _ _ _ _ _)).mono ?_;rintro e Y ⟨rfl,rfl⟩);go_region
    all_goals go_wp2
    all_goals
      refine PZ (v:=eF (Xz XJ 0 0) r ⟨#[109]⟩ ln cl 6) (by simp[results,results29,go_sem,eF,am,y0,y1,y2,y3,y4,y5]) rfl ?_;refine⟨Hv Z ?_ ?_ ?_,fun h=>by rw[Z]at h;cases h⟩
      · exact A.out.kept (S:=[w.heap.size,w.heap.size+1]) (gU (p:=w.heap.size) (q:=w.heap.size+1) (aa.refl _ _) (PI (by simp)) (PI (by simp)) _ _ _ _ _ _ _ _ _ _ _ _ _) D z.out
      · exact ad.anyR.kept (S:=[w.heap.size,w.heap.size+1]) (gU (p:=w.heap.size) (q:=w.heap.size+1) (aa.refl _ _) (PI (by simp)) (PI (by simp)) _ _ _ _ _ _ _ _ _ _ _ _ _) d
      · exact gU (p:=w.heap.size) (q:=w.heap.size+1) Q (PK (PB _)) (PK (by omega)) _ _ _ _ _ _ _ _ _ _ _ _ _
  · simp only[Z,if_true]at c
    obtain⟨rfl,H,g,C,bf,M⟩:=c;simp only[World.size_setCell]at bf M;have O:g∉[w.heap.size,w.heap.size+1]:=(by simp;omega);have K:XN (∀k,cD H k->k∉[w.heap.size,w.heap.size+1]):=fun k hk=>by have:=M k hk;simp;omega
    have bs:=fun(wx:XP)=>Dw wx;go_wp2_with fail;refine(vV b a l H g _ (by exact C.kept (d6 (aa.refl [w.heap.size,w.heap.size+1] y) (PI (by simp)) _ _ _ _ _ _) d O K.out) ai).mono ?_;rintro e Y ⟨I,rfl,ag,ah,i⟩;obtain⟨ao,n9,be,R⟩:=ft I (f7 l).length;rw[R];have U:=i.get (sG u _ _ _ _ _ _) (by simp);have T:=i.get ((d6 (aa.refl [w.heap.size+1] y) (PI (by simp)) _ _ _ _ _ _).get t (by simp)) (by simp);have K9:aa [b] w Y:=(d6 Q (PK (by omega)) _ _ _ _ _ _).trans (i.mono (by simp));have bc:XN (aR Y x b v o):=(A.out.kept (d6 (aa.refl [w.heap.size,w.heap.size+1] y) (PI (by simp)) _ _ _ _ _ _) D z.out).Ug i;have a8:XN (br Y b a):=(C.anyR.kept (d6 (aa.refl [w.heap.size,w.heap.size+1] y) (PI (by simp)) _ _ _ _ _ _) d).kept i (by simp);have az:XN (dq Y I (f7 l)):=ag;have a6:XN (fB Y b a l H g):=(C.kept (d6 (aa.refl [w.heap.size,w.heap.size+1] y) (PI (by simp)) _ _ _ _ _ _) d O K.out).Ug i;have av:XN (w.heap.size<=g/\∀k,cD H k->w.heap.size<=k):=⟨by omega,fun k hk=>by have:=M k hk;omega⟩;have ac:XN (∀g,I=XK g->w.heap.size+2<=g):=fun g N=>by have:=ah g N;simp at this;omega
    have a7:XN _:=R;clear y0 y1 y2 y3 y4 y5 z0 z1 z2 z3 z4 z5 f0 f1 c0 c1 t u Q i ag ah R C;obtain⟨y0,y1,y2,y3,y4,y5⟩:=bG T;obtain⟨z0,z1,z2,z3,z4,z5⟩:=bG U;have f0:=aw T;have f1:=aw U;have b2:=ae U;have bm:=ae T;go_wp2_with fail;go_region
    all_goals go_wp2
    all_goals
      refine PZ (v:=eF (Xz ao n9 be) 0 ⟨#[]⟩ 0 0 0) (by simp[results,results29,go_sem,eF,y0,y1,y2,y3,y4,y5]) rfl ?_;refine⟨EF Z (ob:=I) a7.out ?_ (fun g N=>by have:=ac.out g N;omega) ?_ ?_ ?_,fun _=>⟨H,g,a6.out.kept (S:=[w.heap.size,w.heap.size+1]) (fh (p:=w.heap.size) (q:=w.heap.size+1) (aa.refl _ _) (PI (by simp)) (PI (by simp)) _ _ _ _ _ _ _) d O K.out,av.out⟩⟩
      · exact dq.kept az.out (S:=[w.heap.size,w.heap.size+1]) (fh (p:=w.heap.size) (q:=w.heap.size+1) (aa.refl _ _) (PI (by simp)) (PI (by simp)) _ _ _ _ _ _ _) (fun g N=>by have:=ac.out g N;simp;omega)
      · exact bc.out.kept (S:=[w.heap.size,w.heap.size+1]) (fh (p:=w.heap.size) (q:=w.heap.size+1) (aa.refl _ _) (PI (by simp)) (PI (by simp)) _ _ _ _ _ _ _) D z.out
      · exact a8.out.kept (S:=[w.heap.size,w.heap.size+1]) (fh (p:=w.heap.size) (q:=w.heap.size+1) (aa.refl _ _) (PI (by simp)) (PI (by simp)) _ _ _ _ _ _ _) d
      · exact fh (p:=w.heap.size) (q:=w.heap.size+1) K9 (PK (PB _)) (PK (by omega)) _ _ _ _ _ _ _
def fa(w:XP)(x n N:Nat)(t:ByteArray):Prop:=∃fs H g,fB w x fs (aJ t).2.Us H g/\n<=g/\(∀k,cD H k->n<=k)/\oq N fs
theorem fa.Ug(h:fa d l n k T)(i:aa [] d D):fa D l n k T:=by
 obtain⟨a,H,g,b,c,e,f⟩:=h;exact⟨a,H,g,b.Ug i,c,e,f⟩
theorem fa.keptB(h:fa d l n k T)(a:aa [i] d D)(o:l≠i)(p:i<n):fa D l n k T:=by
 obtain⟨c,H,g,e,f,b,j⟩:=h;exact⟨c,H,g,e.kept a (by simpa using o) (by simp;omega) (fun a m=>by have:=b a m;simp;omega),f,b,j⟩
theorem fa.down(h:fa d l n i T)(o:k<=n):fa d l k i T:=by
 obtain⟨a,H,g,b,m,c,e⟩:=h;exact⟨a,H,g,b,by omega,fun j f=>by have:=c j f;omega,e⟩
theorem kM{N:Nat}(C:N<=3)(b x:Nat)(T t:ByteArray)(o:Option Nat)(j:Fs)(w:XP)(F:aR w b x T o)(E:br w x j)(M:x≠b)(s:¬1024<t.size)(B:oq N j)(d:cS t=XM) :
  XO prog 29 #[XA (XK ⟨b,0,XJ⟩),Xy t] w fun e i=>mp N b x T t o w e i/\(((aJ t).1.1==0)=XL->fa i x w.heap.size N t):=by
 obtain⟨k,a,L,K,q,I,r,n,c⟩:=MU C j t B s;have u:=iA t (by omega) d;refine(Gl b x T t o j a (aJ t).1.1 (aL t (aJ t).1.2) (bA t (aJ t).1.2) (aJ t).2.Us w F E M s L u.ok.len (fun i v=>AC x k a t i v I K q r n c.2 d)).mono ?_;rintro e i ⟨⟨O,G,D,J,m,l,p⟩,f⟩;refine⟨⟨O,?_,D,J,m,⟨a,l,c⟩,p⟩,fun h=>?_⟩
 ·rw[G];rfl
 ·obtain⟨H,g,y,z,A⟩:=f h;exact⟨a,H,g,y,z,A,c⟩
theorem uN(hN:l<=3)(b x:Nat)(T:ByteArray)(o:Option Nat)(J:Fs)(w:XP)(N:aR w b x T o)(hV:br w x J)(hx:x≠b)(Z:oq l J)(z:dV T) :
  XO prog 31 #[XA (XK ⟨b,0,XJ⟩)] w fun e v=>rV l b x T o w e v/\fa v x w.heap.size l T:=by
 obtain⟨U,V,-⟩:=N.cells;have ad:=N.lt;have E:=kM hN b x T T o J w N hV hx (by have:=z.size;omega) Z z.inc;unfold mp at E;have B:XN _:=E;have m:=z.zero;have t:=z.rws;clear E;go_enter func31,ntmps31;go_wp2_with fail;refine PE B.out ?_;rintro e n ⟨⟨S,rfl,g,ag,a,⟨K,M,L⟩,O⟩,j⟩;have p:XN (fa n x w.heap.size l T):=j m;clear j;have g:=g m;unfold Aj;rw[PJ m];have F:=fun(v:XP) (k:aa [] n v)=>pD S o (bu T) v (g.Ug k) (a.rows.Ug k) t;have s:=a.lt;obtain⟨W,X,I⟩:=a.cells;obtain⟨q,R,r,c⟩:=ft S (bu T).length;obtain⟨G,n2,H,d⟩:=ft o (bu T).length;rw[c,d]at F;rw[d]at I;rw[c];have C:XN _:=F;clear F c d t g U V;simp only[eF];go_upto_region 2 with fail
 obtain⟨f,i⟩:∃f,f=n.alloc (XE #[Xz q R r,Xx XF 0,Xy ⟨#[]⟩,Xx XF 0,Xx XF 0,Xx XF 0] 87):=⟨_,rfl⟩
 have u:aa [] n f:=by rw[i];exact(aa.refl [] _).alloc _
 have A:f.heap[n.heap.size]?=XK (XE #[Xz q R r,Xx XF 0,Xy ⟨#[]⟩,Xx XF 0,Xx XF 0,Xx XF 0] 87):=by rw[i];exact Pz _ _
 rw[<-i];have s0:=(bG A).1;have Y:XI f ⟨b,2,XJ⟩=XK (Xz G n2 H):=by
  have:=(a.Ug u).cells.2.2;rw[Qn (u.block b s (by simp))];exact I
 have ac:b<f.heap.size:=PH s u.size;clear i W X I;go_region_with (go_at_call 63;refine(C.out _ (by exact u.trans (aa.refl [] f).drew)).mono ?_;rintro e w4 ⟨rfl,Q⟩)
 all_goals
  have y:aa [] n w4:=(u.trans (aa.refl [] f).drew).trans Q;have P:=Q.get ((aa.refl [] f).drew.get A (by simp)) (by simp);obtain⟨-,-,-,-,-,s5⟩:=bG P;have D:XN _:=a.Ug y;have ah:=ae P;clear s0 Y A;go_wp2;go_ret;exact⟨⟨rfl,D.out,⟨K,M.kept y (by simp),L⟩,O.trans (y.mono (by simp))⟩,fa.Ug p.out y⟩
def AT(N b x:Nat)(w:XP)(e:Ending)(w':XP):Prop :=
 e=XH (XC XL)/\(∃T' o',aR w' b x T' o'/\dV T'/\(bu T'=[]∨fa w' x (b+1) N T'))/\(∃fs',br w' x fs'/\oq N fs')/\aa [b,x] w w'
theorem Bi{N:Nat}(hN:N<=3)(b x:Nat)(T c:ByteArray)(o:Option Nat)(K:Fs)(w:XP)(X:aR w b x T o)(hV:br w x K)(L:x≠b)(hM:oq N K)(t:dV T)(hc:c.size<=1073741824)(ao:XN (bu T=[]∨fa w x (b+1) N T)) :
  XO prog 19 #[XA (XK ⟨b,0,XJ⟩),Xy c] w fun e w'=>AT N b x w e w':=by
 have a0:=t.size;have a3:=X.lt;have a9:=hV.lt;obtain⟨c0,c1,-⟩:=X.cells;cases hh:cS c
 ·have Y:(T++⟨#[10]⟩++c).size=T.size+1+c.size:=by simp only[ByteArray.size_append];rfl
  have HU:XN (∀U,U=T++⟨#[10]⟩++c->U.size=T.size+1+c.size/\cS U=XM/\((aJ U).1.1≠0->aL T T.size+1<=aL U (aJ U).1.2)/\∃m,bu U=bu T++m):=by
   intro U l;subst l;exact⟨Y,BE T c t.inc hh,Fv T c t,Gh T c t⟩
  clear Y;go_enter func19,ntmps19;go_wp2_with (go_at_call 55;refine(sV _ _ (by omega)).mono ?_;rintro e w9 ⟨rfl,I⟩;rw[I]);obtain⟨U,l⟩:∃U,U=T++⟨#[10]⟩++c:=⟨_,rfl⟩
  rw[<-l];obtain⟨u1,u3,u4,m,u5⟩:=HU.out U l;clear l HU;by_cases hl:1024<U.size
  ·refine(tP b x T U o K _ X hV L hl (by omega)).mono ?_;rintro e y ⟨rfl,a,u,v⟩;simp only[eF];have G:=a.lt;go_wp2_with fail;refine(uN hN b x T o K _ (a.Ug ((aa.refl [] _).alloc _)) (u.kept ((aa.refl [] _).alloc _) (by simp)) L hM t).mono ?_;rintro e w3 ⟨⟨rfl,d,⟨D,F,E⟩,H⟩,i⟩;go_wp2;go_ret;exact⟨rfl,⟨T,o,d,t,PK (i.down (by simp;omega))⟩,⟨D,F,E⟩,((v.mono (by simp)).alloc _).trans (H.mono (by simp))⟩
  ·refine(kM hN b x T U o K _ X hV L hl hM u3).mono ?_;rintro e y ⟨⟨Z,rfl,f,ap,a,⟨C,u,W⟩,v⟩,A⟩;have z:XN _:=A;clear A;unfold Aj;have G:=a.lt;have FU:XN (((aJ U).1.1==0)=XL->dV U):=fun h=>⟨by omega,by simpa using h,u3⟩
   obtain⟨r,HR⟩:∃r,XN ((aJ U).1.1=r):=⟨_,rfl⟩
   obtain⟨p,HP⟩:∃p,XN ((aJ U).1.2=p):=⟨_,rfl⟩
   rw[HR.out]at f u4 FU z ⊢;rw[HP.out]at u4 ⊢;cases hr:(r==0)
   ·simp only[Bool.false_eq_true,if_false,eF];have a5:=rL T T.size;have a6:=u4 (by simpa using hr);have a7:=rL U p;clear u4 f FU c0 c1;obtain⟨c0,c1,-⟩:=a.cells;go_wp2_with (go_at_call 57;refine(Fn _ _ (by omega)).mono ?_;rintro e w9 ⟨rfl,I⟩;subst I);refine(uN hN b x T o C _ (a.Ug ((aa.refl [] _).alloc _)) (u.kept ((aa.refl [] _).alloc _) (by simp)) L W t).mono ?_;rintro e w3 ⟨⟨rfl,d,⟨D,F,E⟩,H⟩,i⟩;go_wp2;go_ret;exact⟨rfl,⟨T,o,d,t,PK (i.down (by simp;omega))⟩,⟨D,F,E⟩,((v.mono (by simp)).alloc _).trans (H.mono (by simp))⟩
   ·simp only[if_true];have f:=f hr;have O:XN _:=FU.out hr;have BG:=fun(w':XP) (k:aa [] y w')=>si o Z (bu T) m w' (a.rows.Ug k) (by rw[<-u5];exact f.Ug k) (by rw[<-u5];exact O.out.rws);rw[<-u5]at BG;obtain⟨d0,d1,d2⟩:=a.cells;obtain⟨S,n1,V,j⟩:=ft Z (bu U).length;obtain⟨ai,n2,am,q⟩:=ft o (bu T).length;rw[j,q]at BG;rw[q]at d2;rw[j];have ac:XN _:=BG;have P:XN _:=j;have ag:XN (dq y Z (bu U)):=f;clear BG j q u5 f u4 FU c0 c1 u3 hl;simp only[eF];(go_upto_region 9 with fail);obtain⟨s,d⟩:∃s,s=y.alloc (XE #[Xz S n1 V,Xx XF 0,Xy ⟨#[]⟩,Xx XF 0,Xx XF 0,Xx XF 0] 87):=⟨_,rfl⟩
    have k3:aa [] y s:=(by rw[d];exact(aa.refl [] _).alloc _);have B3:s.heap[y.heap.size]?=XK (XE #[Xz S n1 V,Xx XF 0,Xy ⟨#[]⟩,Xx XF 0,Xx XF 0,Xx XF 0] 87):=(by rw[d];exact Pz _ _);rw[<-d];have s0:=(bG B3).1;have e2:XI s ⟨b,2,XJ⟩=XK (Xz ai n2 am):=by
     rw[Qn (k3.block b G (by simp))];exact d2
    have a1:b<s.heap.size:=PH G k3.size;clear d d0 d1 d2;go_region_with (go_at_call 56;refine(ac.out _ (by exact k3.trans (aa.refl [] s).drew)).mono ?_;rintro e M ⟨rfl,k4⟩)
    all_goals
     have J:aa [] y M:=(k3.trans (aa.refl [] s).drew).trans k4;have B4:=k4.get ((aa.refl [] s).drew.get B3 (by simp)) (by simp);obtain⟨t0,-,-,-,-,-⟩:=bG B4;have n:=a.Ug J;have bc:=ae B4;have a2:=n.lt;obtain⟨f0,f1,f2⟩:=n.cells;obtain⟨av,n3,az,B⟩:=ft o (bu T).length;rw[B]at f2;have a4:=aw n.blk;have a8:b≠y.heap.size:=(by omega);have aq:y.heap.size≠b:=(by omega);have R:XN _:=(n.text U Z (ag.out.Ug J) (fun g hg=>by have:=ap g hg;omega));rw[P.out]at R;have ah:XN (br M x C):=u.kept J (by simp);have Q:XN (fa M x (b+1) N U):=((z.out hr).Ug J).down (by omega);have ad:XN (aa [b,x] w M):=(v.mono (by simp)).trans (J.mono (by simp));clear s0 e2 B3 n B B4 k4 J;go_wp2;go_ret;exact⟨rfl,⟨U,Z,R.out,O.out,PK (Q.out.keptB (qC M b _ _) L (by omega))⟩,⟨C,ah.out.kept (qC M b _ _) (by simpa using L),W⟩,(ad.out.setCell (PI (by simp)) _).setCell (PI (by simp)) _⟩
 ·go_enter func19,ntmps19;go_wp2_with (go_at_call 55;refine(sV _ _ (by omega)).mono ?_;rintro e w9 ⟨rfl,rfl⟩);go_ret;exact⟨rfl,⟨T,o,X,t,ao.out⟩,⟨K,hV,hM⟩,aa.refl _ _⟩
def MC(w0 w:XP)(b x:Nat):Prop:=w0.heap.size<=b/\w0.heap.size<=x/\x≠b/\(∃T o,aR w b x T o/\dV T/\(bu T=[]∨fa w x (b+1) 0 T))/\(∃fs,br w x fs/\oq 0 fs)
theorem BC(E:Option Addr)(y:Nat)(l:List ByteArray)(w:XP)(hl:l.length<=1073741824)(C:∀i,i<l.length->(l.getD i ⟨#[]⟩).size<=1073741824)(R:l.length=0∨∃b j,E=XK ⟨b,j,XJ⟩/\iC w b j l) :
  XO prog 10 #[Xz E l.length y] w fun e Q=>∃b x,e=XH (XD #[XA (XK ⟨b,0,XJ⟩),XC XL])/\MC w Q b x/\aa [] w Q:=by
 go_enter func10,ntmps10;go_wp2_with fail;refine(DR _).mono ?_;rintro e u ⟨rfl,p,t⟩;have W:=p.anyR.lt;have q:aR (u.alloc (XE #[XA (XK ⟨w.heap.size,0,XJ⟩),Xy ⟨#[]⟩,Xz XJ 0 0,Xx XF 0,Xz XJ 0 0,Xz XJ 0 0,Xz XJ 0 0,Xz XJ 0 0,Xz XJ 0 0] 60)) u.heap.size w.heap.size ⟨#[]⟩ XJ :=
  ⟨Pz _ _,qU,fun g L=>by cases L⟩
 have v:XN _:=q;clear q;have V:=t.size;go_wp2
 go_loopg [6,7] l.length (fun g i _ wr=>∃(k:Nat),k<=l.length/\g=l.length-k/\i=Xx XF k/\MC w wr u.heap.size w.heap.size/\aa [] w wr)
 case atStart=>exact⟨0,by omega,by omega,rfl,⟨by omega,PB _,by omega,⟨_,_,v.out,Bt,PI qU⟩,⟨[],p.anyR.kept ((aa.refl [] _).alloc _) (by simp),PK ⟨rfl,by simp⟩,yR⟩⟩,t.alloc _⟩
 case round =>
  obtain⟨k,hk,L,rfl,⟨O,P,D,⟨T,o,K,I,n⟩,⟨G,J,H⟩⟩,a⟩:=hrel;have m:XN _:=n;clear n;by_cases f:k<l.length
  ·rcases R with Z | ⟨Y,j,rfl,r⟩
   ·omega
   ·have S:=r.1;have U:=(r.kept a (by simp)).2 k f;have F:l.getD k ⟨#[]⟩=l[k]:=(by rw[Py,Px f];rfl);have s:=C k f;rw[F]at s;generalize l[k]=c at *;clear F;go_wp2_with fail;refine(Bi (N:=0) (by omega) u.heap.size w.heap.size T c o G _ K J D H I s m).mono ?_;rintro e X ⟨rfl,A,z,d⟩;have B:aa [] w X:=⟨d.os.trans a.os,d.tape.trans a.tape,d.output.trans a.output,Qa a.size d.size,fun i M _=>(d.block i (PH M a.size) (by simp;omega)).trans (a.block i M (by simp))⟩;go_wp2;go_roundg (l.length-(k+1))
    case measure=>omega
    case rel=>exact⟨k+1,by omega,rfl,by go_num,⟨O,P,D,A,z⟩,B⟩
  ·go_wp2;go_ret2;exact⟨u.heap.size,w.heap.size,rfl,⟨O,P,D,⟨T,o,K,I,m.out⟩,⟨G,J,H⟩⟩,a⟩
theorem NB(a:List ByteArray)(x:ByteArray):aZ a x=a.findIdx? (fun y=>y.toList==x.toList):=by
 unfold aZ
 induction a with
 | nil=>rfl
 | cons y r b =>
  rw[Qw,List.range_succ_eq_map,TN,List.findIdx?_cons];cases h:(y.toList==x.toList) with
  | true=>simp[h]
  | false =>
   simp only[List.getD_cons_zero,h,List.find?_map,Bool.false_eq_true,if_false];rw[<-b];rfl
theorem Jh(h:aZ S T=XK l):l<S.length:=by
 have:=Qc h;simpa using this
def jR(l:List St)(hs:List Nat):List ByteArray:=hs.filterMap (fun h=>if((l.getD h dJ).kind==3)=XL then XJ else XK (ak (l.getD h dJ)))
structure O3(l:List St)(hs:List Nat):Prop where
 two:∀h∈hs,((l.getD h dJ).kind==3)=XM->(l.getD h dJ).Ub=[ax (l.getD h dJ),ak (l.getD h dJ)]
 ess:∀h∈hs,(l.getD h dJ).Ub≠[]
 tc:∀h∈hs,aZ (jR l hs) (ax (l.getD h dJ))=XJ
 uq:(jR l hs).Nodup
 pre:∀ah h bs,hs=ah++h :: bs->((l.getD h dJ).kind==3)=XL->∀x∈(l.getD h dJ).Ub,aZ (jR l ah) x=XJ->aZ (jR l bs) x=XJ
theorem rG(c b:List Nat):jR a (c++b)=jR a c++jR a b:=by unfold jR;rw[QP]
theorem dU:aZ S T=XJ ↔ T∉S:=by
 rw[NB,List.findIdx?_eq_none_iff];constructor
 ·intro h m;have:=h T m;simp at this
 ·intro h y a;cases c:(y.toList==T.toList) with
  | false=>rfl
  | true=>exact absurd (eC (Rh c) ▸ a) h
abbrev eP (l:List St) (n:Nat):List ByteArray:=jR l (al l n)
def OQ(l:List St)(n:Nat)(x:ByteArray):Prop:=x∈(l.getD n dJ).Ub∨∃h∈al l n,x∈(l.getD h dJ).Ub
def OW{D:Type}(M:Sns D)(K:ByteArray->D)(l:List St)(n:Nat):Prop :=
 ∀V:ByteArray->D,(∀x,OQ l n x->aZ (eP l n) x=XJ->V x=K x)->(∀h∈al l n,hdS M V (l.getD h dJ).Ub) ->
  (∀i j,i<j->j<(eP l n).length->cR (eP l n).length (cT l n (eP l n)) i j=XL->M.ap (V ((eP l n).getD i ⟨#[]⟩)) (V ((eP l n).getD j ⟨#[]⟩)))->hdS M V (l.getD n dJ).Ub
structure NZ(l:List St)(n:Nat):Prop where
 hy:O3 l (al l n)
 ne:(l.getD n dJ).Ub≠[]
 tc:aZ (eP l n) (ax (l.getD n dJ))=XJ
theorem vB(d:S.Nodup)(a:l<S.length):aZ S (S.getD l ⟨#[]⟩)=XK l:=by
 have b:S.getD l ⟨#[]⟩=S[l]:=by rw[Py,Px a];rfl
 cases g:aZ S (S.getD l ⟨#[]⟩) with
 | none=>rw[dU,b]at g;exact absurd (PD a) g
 | some j =>
  have c:=Jh g;have e:=Rf g;have e:=eC (Rh e);rw[b,Py,Px c]at e;have:=(List.getElem_inj d).1 (show S[j]=S[l] from e);rw[this]
structure Po{D:Type}(M:Sns D)(K V:ByteArray->D)(l:List St)(a:Nat)(vs:List ByteArray)(ms:List Bool)(steps:List gX):Prop where
 hyp:∀s∈steps,(s.kind==3)=XM->fD l s.Uc=XM->hdS M V (l.getD s.Uc dJ).Ub/\(l.getD s.Uc dJ).Ub≠[]
 ass:∀s∈steps,(s.kind==3)=XM->fD l s.Uc=XL->NZ l s.Uc/\OW M K l s.Uc/\∀x,OQ l s.Uc x->aZ (eP l s.Uc) x=XJ->V x=K x
 con:∀x,aZ vs x=XJ->∀d,M.ap (V x) d/\M.ap d (V x)
 par:∀i j,i<vs.length->j<vs.length->cR vs.length ms i j=XL->∀x y,aZ vs x=XK i->aZ vs y=XK j->M.ap (V x) (V y)
theorem gi:aM o f=XL ↔ f∈o:=by
 unfold aM;rw[SJ];exact⟨fun⟨y,h,e⟩=>eC (Rh e) ▸ h,fun h=>⟨f,h,by simp⟩⟩
theorem Ol:aM o f=XM ↔ f∉o:=by
 rw[<-gi,Bool.not_eq_true]
def AI(s:St):ByteArray:=s.Ub.getD 1 ⟨#[]⟩
def ph(s:St):Option ByteArray:=if s.kind=2/\s.til=0 then XK (AI s) else XJ
def tm(l:List St):List ByteArray:=l.filterMap ph
structure Vr(d:Db):Prop where
 cv:∀x∈d.Ud,x∉d.Ue
 av:∀x∈d.Uk,x∈d.Ue
 typ:d.Un=tm d.Us
 tv:∀x∈d.Un,x∈d.Ue
 nd:d.Un.Nodup
 len:d.blocks.length=d.rbl.length
 blk:∀(i:Nat) (p:Nat×Nat) (b:Nat),d.blocks[i]?=XK p->d.rbl[i]?=XK b->b<=d.Us.length/\p.2<=d.Un.length/\tm (d.Us.take b)=d.Un.take p.2
 ord:∀i j b c:Nat,i<=j->d.rbl[i]?=XK b->d.rbl[j]?=XK c->b<=c
 c7:d.kind=7->∀x∈d.Ub,x∉d.Ue
 c8:d.kind=8->∀x∈d.Ub,x∉d.Ud
 c2:d.kind=2->∀(i:Nat) x,d.Ub[i]?=XK x->(i=0->x∈d.Ud)/\(i≠0->x∈d.Ue/\x∉d.Un)
 c3:3<=d.kind/\d.kind<=5->∀x∈d.Ub,x∈d.Ud∨(x∈d.Ue/\x∈d.Un)
 st:∀(n:Nat) s,d.Us[n]?=XK s->2<=s.kind/\s.kind<=5->∀x∈s.Ub,x∈d.Ud∨(x∈d.Ue/\(s.kind≠2->∃(k:Nat) (u:St),k<n/\d.Us[k]?=XK u/\u.kind=2/\AI u=x/\(u.til=0∨n<u.til)))
 ds:∀(n m:Nat) s u,d.Us[n]?=XK s->d.Us[m]?=XK u->s.kind=2->u.kind=2->n<m->(s.til=0∨m<s.til)->AI s≠AI u
 fl:∀(n:Nat) s,d.Us[n]?=XK s->s.kind=2->AI s∈d.Ue
 til:∀(n:Nat) s,d.Us[n]?=XK s->s.til<=d.Us.length
 nest:∀(k h:Nat) u s,k<h->d.Us[k]?=XK u->d.Us[h]?=XK s->jl s.kind=XM->u.til≠0->h<u.til->s.til≠0/\s.til<=u.til
theorem Vr.empty:Vr bB:=by
 refine⟨?_,?_,rfl,?_,List.nodup_nil,rfl,?_,?_,?_,?_,?_,?_,?_,?_,?_,?_,?_⟩
 all_goals intros
 all_goals simp_all [bB]
theorem Vr.kd{a:Db}(V:Vr w)(f:a.Ud=w.Ud)(c:a.Ue=w.Ue)(i:a.Uk=w.Uk)(d:a.Un=w.Un)(g:a.blocks=w.blocks)(b:a.Us=w.Us)(e:a.rbl=w.rbl)(h:a.Ub=[]):Vr a:=by
 refine⟨by rw[f,c];exact V.cv,by rw[i,c];exact V.av,by rw[d,b];exact V.typ,by rw[d,c];exact V.tv,by rw[d];exact V.nd,by rw[g,e];exact V.len,by rw[g,e,b,d];exact V.blk,by rw[e];exact V.ord,?_,?_,?_,?_,by rw[b,f,c];exact V.st,by rw[b];exact V.ds,by rw[b,c];exact V.fl,by rw[b];exact V.til,by rw[b];exact V.nest⟩
 all_goals (rw[h];intros;simp_all)
theorem xe:tm (H++a)=tm H++tm a:=by unfold tm;rw[QP]
theorem DV:T∈tm y ↔ ∃(k:Nat) (u:St),y[k]?=XK u/\u.kind=2/\u.til=0/\AI u=T:=by
 unfold tm;rw[Rg];constructor
 ·rintro ⟨u,f,e⟩;obtain⟨k,a⟩:=Si f;unfold ph at e;split at e
  ·next h=>exact⟨k,u,a,h.1,h.2,Qo e⟩
  ·cases e
 ·rintro ⟨k,u,a,b,c,d⟩;exact⟨u,Qf a,by unfold ph;rw[PJ ⟨b,c⟩,d]⟩
theorem LF(k:b<=H.length):tm (cH H b)=tm (H.take b):=by
 have d:(cH H b).length=H.length:=by unfold cH dK;rw[List.length_mapIdx]
 have e:cH H b=H.take b++(H.drop b).map (dE H.length):=by
  apply QY;intro i;rw[fH,List.getElem?_append,QM,Sr k];by_cases h:i<b
  ·rw[PJ h,So h];cases H[i]? with
   | none=>rfl
   | some s=>simp only[Option.map_some];rw[PG (by omega)]
  ·rw[PG h,Qi,R7,show b+(i-b)=i by omega];cases g:H[i]? with
   | none=>rfl
   | some s =>
    have:=(PT.1 g).1;simp only[Option.map_some];rw[PJ (by omega)]
 rw[e,xe];have:tm ((H.drop b).map (dE H.length))=[]:=by
  unfold tm;rw[List.filterMap_eq_nil_iff];intro s m;obtain⟨u,f,rfl⟩:=Qj.1 m;have l:H.length≠0:=fun j=>by
   have:H=[]:=Qb j;rw[this]at f;simp at f
  unfold ph;rw[PG];rintro ⟨c,a⟩;unfold dE at c a;split at a
  ·exact l a
  ·next h =>
   rw[PG h]at c;exact h ⟨a,by rw[c];rfl⟩
 rw[this,Qz]
theorem kB{s:St}(h:(cH y l)[n]?=XK s):∃u,y[n]?=XK u/\s.kind=u.kind/\s.Ub=u.Ub/\s=(if l<=n/\n<y.length then dE y.length u else u)/\(s.til=u.til∨(u.til=0/\s.til=y.length/\l<=n)):=by
 rw[fH]at h;cases g:y[n]? with
 | none=>rw[g]at h;cases h
 | some u =>
  rw[g]at h;simp only[Option.map_some,Option.some.injEq]at h;refine⟨u,rfl,?_⟩;subst h;by_cases c:l<=n/\n<y.length
  ·rw[PJ c];unfold dE;split
   ·next a=>exact⟨rfl,rfl,rfl,PK ⟨a.1,rfl,c.1⟩⟩
   ·exact⟨rfl,rfl,rfl,PI rfl⟩
  ·rw[PG c];exact⟨rfl,rfl,rfl,PI rfl⟩
theorem Dv:(cH H b).length=H.length:=by unfold cH dK;rw[List.length_mapIdx]
theorem If(h:b<=x):(cH H x).take b=H.take b:=by
 apply QY;intro i;by_cases a:i<b
 ·rw[So a,So a,fH];cases H[i]? with
  | none=>rfl
  | some s=>simp only[Option.map_some];rw[PG (by omega)]
 ·rw[QF (by rw[QM];omega),QF (by rw[QM];omega)]
theorem Vr.close(V:Vr w){p:Nat×Nat}(I:w.blocks.getLast?=XK p)(h2:w.rbl.getLast?=XK l)(B:w.Ub=[]):Vr { w with blocks:=w.blocks.dropLast,Uk:=w.Uk.take p.1,Un:=w.Un.take p.2,rbl:=w.rbl.dropLast,Us:=cH w.Us l }:=by
 have Z:=V.len;have b1:w.blocks[w.blocks.length-1]?=XK p:=by rw[<-Tp];exact I
 have T:w.rbl[w.blocks.length-1]?=XK l:=by rw[Z,<-Tp];exact h2
 obtain⟨q1,q2,q3⟩:=V.blk _ _ _ b1 T;have hn:0<w.blocks.length:=by
  cases g:w.blocks with
  | nil=>rw[g]at I;cases I
  | cons _ _=>simp
 have o:∀{u:St} {k:Nat},w.Us[k]?=XK u->k<w.Us.length:=fun h=>(PT.1 h).1;refine⟨V.cv,fun x a=>V.av x (RZ a),?_,fun x a=>V.tv x (RZ a),V.nd.sublist (List.take_sublist _ _),by simp[Z],?_,?_,?_,?_,?_,?_,?_,?_,?_,?_,?_⟩
 ·show w.Un.take p.2=tm (cH w.Us l);rw[LF _ _ q1,q3]
 ·intro i p' f d b;simp only at d b ⊢;have hi:i<w.blocks.length-1:=by
   have:=(PT.1 d).1;simpa using this
  rw[R8,PJ hi]at d;rw[R8,PJ (by omega)]at b;obtain⟨r1,r2,r3⟩:=V.blk _ _ _ d b;have y:f<=l:=V.ord i _ f l (by omega) b T;rw[Dv,If _ _ _ y];have e:tm (w.Us.take l)=tm (w.Us.take f)++tm ((w.Us.take l).drop f):=by
   rw[<-xe];congr 1;have:=(Rq f (w.Us.take l)).symm;rwa [Sf,Sr y]at this
  have L:p'.2<=p.2:=by
   have l1:=congrArg List.length e;rw[q3,r3,PQ,QM,QM]at l1;omega
  refine⟨r1,by rw[QM];omega,?_⟩;rw[r3,Sf,Sr L]
 ·intro i j f c J d b;simp only at d b;have hj:j<w.rbl.length-1:=by have:=(PT.1 b).1;simpa using this
  rw[R8,PJ (by omega)]at d;rw[R8,PJ (by omega)]at b;exact V.ord i j f c J d b
 ·intro _ x a;simp only[B]at a;cases a
 ·intro _ x a;simp only[B]at a;cases a
 ·intro _ i x a;simp only[B]at a;cases a
 ·intro _ x a;simp only[B]at a;cases a
 ·intro n s g k x a;obtain⟨u,r,E,Q,-,-⟩:=kB g;rw[E]at k;rw[Q]at a;rcases V.st n u r k x a with h | ⟨h,hh⟩
  ·exact PI h
  ·refine PK ⟨h,fun D=>?_⟩;rw[E]at D;obtain⟨m,v,m1,m2,m3,m4,m5⟩:=hh D;have ac:=o m2;have:=o r;refine⟨m,if l<=m/\m<w.Us.length then dE w.Us.length v else v,m1,by simp only;rw[fH,m2];rfl,?_,?_,?_⟩
   ·split
    ·rw[(nC _ _).1];exact m3
    ·exact m3
   ·split
    ·unfold AI;rw[(nC _ _).2.2];exact m4
    ·exact m4
   ·split
    ·unfold dE;split
     ·right;show n<w.Us.length;omega
     ·exact m5
    ·exact m5
 ·intro n m s u d b k1 D M C;obtain⟨q,F,R,S,-,G⟩:=kB d;obtain⟨P,t,H,U,-,W⟩:=kB b
  have:=V.ds n m q P F t (by rw[<-R];exact k1) (by rw[<-H];exact D) M (by
   rcases G with e | ⟨e,X,-⟩
   ·rw[<-e];exact C
   ·exact PI e)
  unfold AI at this ⊢;rw[S,U];exact this
 ·intro n s g k;obtain⟨u,r,E,Q,-,-⟩:=kB g;have:=V.fl n u r (by rw[<-E];exact k);unfold AI at this ⊢;rw[Q];exact this
 ·intro n s g;obtain⟨u,r,-,-,-,u5⟩:=kB g;simp only;rw[Dv];rcases u5 with e | ⟨-,e,-⟩
  ·rw[e];exact V.til n u r
  ·omega
 ·intro k h u s K d b ha Y C;obtain⟨P,F,R,S,a4,G⟩:=kB d;obtain⟨q,t,H,U,c4,W⟩:=kB b;have N:=o t;have sa:jl q.kind=XM:=by rw[<-H];exact ha
  rcases G with e | ⟨e,X,e3⟩
  ·rw[e]at Y C;obtain⟨n1,n2⟩:=V.nest k h P q K F t sa Y C;rcases W with g | ⟨g,-⟩
   ·rw[g,e];exact⟨n1,n2⟩
   ·exact absurd g n1
  ·have O:q.til<=w.Us.length:=V.til h q t;rw[c4,PJ ⟨by omega,N⟩,X];unfold dE;split
   ·exact⟨by show w.Us.length≠0;omega,PB _⟩
   ·next hc=>exact⟨fun z=>hc ⟨z,sa⟩,O⟩
theorem Vr.label(V:Vr w)(x:ByteArray)(a:w.Ub=[]):Vr (bj w x).2:=by
 unfold bj;split
 ·exact V
 ·split
  ·exact V
  ·split
   ·exact V
   ·exact V.kd rfl rfl rfl rfl rfl rfl rfl a
theorem Vr.openB(V:Vr w)(t:w.Ub=[]):Vr { w with blocks:=w.blocks++[(w.Uk.length,w.Un.length)],rbl:=w.rbl++[w.Us.length] }:=by
 have o:=V.len;refine⟨V.cv,V.av,V.typ,V.tv,V.nd,by simp[o],?_,?_,fun _ x f=>?_,fun _ x f=>?_,fun _ i x f=>?_,fun _ x f=>?_,V.st,V.ds,V.fl,V.til,V.nest⟩
 ·intro i p b a d;simp only at a d ⊢;by_cases l:i<w.blocks.length
  ·rw[PC l]at a;rw[PC (by omega)]at d;exact V.blk i p b a d
  ·have:=(PT.1 a).1;rw[PQ,QZ]at this;have e:i=w.blocks.length:=by omega
   subst e;rw[PR (PB _),Rb]at a;rw[o,PR (PB _),Rb]at d;have q:=Qo a;have k:=Qo d;subst q k;refine⟨PB _,PB _,?_⟩;rw[Qy,Qy];exact V.typ.symm
 ·intro i j b c m a d;simp only at a d;have r:=(PT.1 d).1;rw[PQ,QZ]at r;by_cases n:j<w.rbl.length
  ·rw[PC n]at d;rw[PC (by omega)]at a;exact V.ord i j b c m a d
  ·have e:j=w.rbl.length:=(by omega);subst e;rw[PR (PB _),Rb]at d;have k:=Qo d;subst k;by_cases l:i<w.rbl.length
   ·rw[PC l]at a;have s:i<w.blocks.length:=(by omega);exact(V.blk i _ b (Px s) a).1
   ·have e:i=w.rbl.length:=(by omega);subst e;rw[PR (PB _),Rb]at a;have k:=Qo a;omega
 all_goals (simp only[t]at f;cases f)
theorem Vr.first(V:Vr w)(x:ByteArray)(a:w.Ub=[]):Vr (aA w x).2:=by
 unfold aA;split
 ·exact V.openB a
 ·split
  ·split
   ·exact V
   ·next p d =>
    unfold dS cL;split
    ·next f =>
     have c:w.rbl=[]:=List.getLast?_eq_none_iff.1 f;have e:=V.len;rw[c]at e;have:w.blocks=[]:=Qb e;rw[this]at d;cases d
    ·next b c=>exact V.close d c a
  ·split
   ·split
    ·exact V
    ·exact V.kd rfl rfl rfl rfl rfl rfl rfl a
   ·split
    ·exact V.kd rfl rfl rfl rfl rfl rfl rfl a
    ·split
     ·exact V.kd rfl rfl rfl rfl rfl rfl rfl a
     ·split
      ·exact V
      ·exact V.label x a
theorem Vr.keyword(V:Vr w)(x:ByteArray)(a:w.Ub=[]):Vr (aN w x).2:=by
 unfold aN
 repeat' split
 all_goals first | exact V | exact V.kd rfl rfl rfl rfl rfl rfl rfl a
theorem IR(l:List ByteArray):∀v x,x∈bS v l ↔ x∈v∨x∈l:=by
 induction l with
 | nil=>intro v x;simp[bS]
 | cons y r b =>
  intro v x;have e:bS v (y :: r)=bS (if aM v y=XL then v else v++[y]) r:=rfl;rw[e,b];split
  ·next h =>
   rw[gi]at h;simp only[List.mem_cons];constructor
   ·rintro (a | a);exact PI a;exact PK (PK a)
   ·rintro (a | rfl | a);exact PI a;exact PI h;exact PK a
  ·rw[Qe,Qd,QT,or_assoc]
theorem Vr.put{d':Db}(V:Vr w)(p:Pl)(hl:dX w<=w.Ub.length)(P:d'.Ud=w.Ud)(t:d'.Ue=w.Ue)(U:d'.Uk=w.Uk)(W:d'.Un=(dh w).Un)(Q:d'.blocks=w.blocks)(y:d'.Us=w.Us++[⟨w.kind,w.label,w.Ub,w.Um,p,0⟩])(C:d'.rbl=w.rbl)(h:d'.Ub=[]):Vr d':=by
 have z:d'.Un=w.Un++tm [⟨w.kind,w.label,w.Ub,w.Um,p,0⟩]:=by
  rw[W];unfold dh tm;by_cases c:w.kind=2
  ·have l2:dX w=2:=(by unfold dX;rw[PJ (PK (by rw[c];rfl))]);rw[PJ ⟨by rw[c];rfl,by omega⟩,QD];unfold ph;rw[PJ ⟨c,rfl⟩];rfl
  ·rw[PG (by rintro ⟨h,-⟩;exact c (by simpa using h)),QD];unfold ph;rw[PG (by rintro ⟨h,-⟩;exact c h)];simp
 have o:w.kind=2->∃v,w.Ub[1]?=XK v/\AI ⟨w.kind,w.label,w.Ub,w.Um,p,0⟩=v/\tm [⟨w.kind,w.label,w.Ub,w.Um,p,0⟩]=[v]/\v∈w.Ue/\v∉w.Un:=fun c=>by
  have l2:dX w=2:=by unfold dX;rw[PJ (PK (by rw[c];rfl))]
  have X:1<w.Ub.length:=by omega
  have g:=Px X;have R:AI ⟨w.kind,w.label,w.Ub,w.Um,p,0⟩=w.Ub[1]:=by unfold AI;rw[Py,g];rfl
  refine⟨_,g,R,?_,(V.c2 c 1 _ g).2 (by omega)⟩;unfold tm;rw[QD];unfold ph;rw[PJ ⟨c,rfl⟩,R];rfl
 have ac:∀x∈w.Un,x∈d'.Un:=fun x d=>by rw[z];simp[d]
 have f:∀{n:Nat} {s:St},d'.Us[n]?=XK s->(n<w.Us.length/\w.Us[n]?=XK s)∨(n=w.Us.length/\s=⟨w.kind,w.label,w.Ub,w.Um,p,0⟩):=fun {n s} g=>by
  rw[y]at g;by_cases c:n<w.Us.length
  ·rw[PC c]at g;exact PI ⟨c,g⟩
  ·have:=(PT.1 g).1;rw[PQ,QZ]at this;have e:n=w.Us.length:=by omega
   subst e;rw[PR (PB _),Rb]at g;exact PK ⟨rfl,(Qo g).symm⟩
 have A:∀{n:Nat} {s:St},w.Us[n]?=XK s->d'.Us[n]?=XK s:=fun g=>by
  rw[y,PC (PT.1 g).1];exact g
 refine⟨by rw[P,t];exact V.cv,by rw[U,t];exact V.av,by rw[z,y,xe,V.typ],?_,?_,by rw[Q,C];exact V.len,?_,by rw[C];exact V.ord,?_,?_,?_,?_,?_,?_,?_,?_,?_⟩
 ·intro x d;rw[z]at d;rw[t];rcases Qe.1 d with d | d
  ·exact V.tv x d
  ·by_cases c:w.kind=2
   ·obtain⟨v,-,-,L,M,-⟩:=o c;rw[L]at d;rw[Qd.1 d];exact M
   ·unfold tm at d;rw[QD]at d;unfold ph at d;rw[PG (by rintro ⟨h,-⟩;exact c h)]at d;cases d
 ·rw[z];by_cases c:w.kind=2
  ·obtain⟨v,-,-,L,-,N⟩:=o c;rw[L];refine List.nodup_append.2 ⟨V.nd,by simp,?_⟩;intro a E b Y e;rw[Qd.1 Y]at e;exact N (e ▸ E)
  ·have:tm [⟨w.kind,w.label,w.Ub,w.Um,p,0⟩]=[]:=by
    unfold tm;rw[QD];unfold ph;rw[PG (by rintro ⟨h,-⟩;exact c h)];rfl
   rw[this,Qz];exact V.nd
 ·intro i q b j l;rw[Q]at j;rw[C]at l;obtain⟨r1,r2,r3⟩:=V.blk i q b j l;rw[y,z];refine⟨by rw[PQ];omega,by rw[PQ];omega,?_⟩;rw[SZ r1,SZ r2,r3]
 ·rw[h];intro _ x d;cases d
 ·rw[h];intro _ x d;cases d
 ·rw[h];intro _ i x d;cases d
 ·rw[h];intro _ x d;cases d
 ·intro n s g k x d;rw[P,t];rcases f g with ⟨r,g⟩ | ⟨rfl,rfl⟩
  ·rcases V.st n s g k x d with a | ⟨a,b⟩
   ·exact PI a
   ·refine PK ⟨a,fun c=>?_⟩;obtain⟨m,u,B,I,J⟩:=b c;exact⟨m,u,B,A I,J⟩
  ·simp only at k d;by_cases c:w.kind=2
   ·obtain⟨i,Z⟩:=Si d;have:=V.c2 c i x Z;by_cases O:i=0
    ·exact PI (this.1 O)
    ·exact PK ⟨(this.2 O).1,fun h=>absurd c h⟩
   ·rcases V.c3 ⟨by omega,by omega⟩ x d with a | ⟨a,b⟩
    ·exact PI a
    ·refine PK ⟨a,fun _=>?_⟩;rw[V.typ]at b;obtain⟨m,u,B,I,J,m4⟩:=DV.1 b;exact⟨m,u,(PT.1 B).1,A B,I,m4,PI J⟩
 ·intro n m s u j l S T G H;rcases f l with ⟨hm,l⟩ | ⟨rfl,rfl⟩
  ·rcases f j with ⟨r,j⟩ | ⟨rfl,rfl⟩
   ·exact V.ds n m s u j l S T G H
   ·omega
  ·rcases f j with ⟨r,j⟩ | ⟨rfl,rfl⟩
   ·have D:s.til=0:=(by have:=V.til n s j;omega);obtain⟨v,-,K,-,-,N⟩:=o T;rw[K];intro e;exact N (by rw[V.typ];exact DV.2 ⟨n,s,j,S,D,e⟩)
   ·omega
 ·intro n s g k;rw[t];rcases f g with ⟨r,g⟩ | ⟨rfl,rfl⟩
  ·exact V.fl n s g k
  ·obtain⟨v,-,K,-,M,-⟩:=o k;rw[K];exact M
 ·intro n s g;rw[y,PQ,QZ];rcases f g with ⟨r,g⟩ | ⟨rfl,rfl⟩
  ·have:=V.til n s g;omega
  ·simp
 ·intro k h u s F j l E D H;rcases f l with ⟨hm,l⟩ | ⟨rfl,rfl⟩
  ·rcases f j with ⟨r,j⟩ | ⟨rfl,rfl⟩
   ·exact V.nest k h u s F j l E D H
   ·omega
  ·rcases f j with ⟨r,j⟩ | ⟨rfl,rfl⟩
   ·have:=V.til k u j;omega
   ·omega
theorem Vr.fin(V:Vr w)(p:Pl):Vr (iT w p).2:=by
 unfold iT;split
 ·exact V
 ·next l =>
  split
  ·exact V
  ·unfold bK;split
   ·next d =>
    have d:w.kind=7:=(by simpa using d);refine⟨?_,V.av,V.typ,V.tv,V.nd,V.len,V.blk,V.ord,(fun _ x c=>by cases c),(fun _ x c=>by cases c),(fun _ i x c=>by cases c),(fun _ x c=>by cases c),?_,V.ds,V.fl,V.til,V.nest⟩
    ·intro x c;rcases Qe.1 c with c | c
     ·exact V.cv x c
     ·exact V.c7 d x c
    ·intro n s g k x c;rcases V.st n s g k x c with a | a
     ·exact PI (Ry _ a)
     ·exact PK a
   ·split
    ·next d f =>
     have f:w.kind=8:=(by simpa using f);have e:∀x,x∈(dx w w.Ub.length).Ue ↔ x∈w.Ue∨x∈w.Ub:=fun x=>by
      show x∈bS w.Ue (w.Ub.take w.Ub.length) ↔ _;rw[Qy];exact IR _ _ _
     refine⟨?_,?_,V.typ,fun x c=>(e x).2 (PI (V.tv x c)),V.nd,V.len,V.blk,V.ord,(fun _ x c=>by cases c),(fun _ x c=>by cases c),(fun _ i x c=>by cases c),(fun _ x c=>by cases c),?_,V.ds,fun n s g k=>(e _).2 (PI (V.fl n s g k)),V.til,V.nest⟩
     ·intro x c m;rcases(e x).1 m with h | h
      ·exact V.cv x c h
      ·exact V.c8 f x h c
     ·intro x c;have c:x∈w.Uk++w.Ub:=c;rcases Qe.1 c with c | c
      ·exact(e x).2 (PI (V.av x c))
      ·exact(e x).2 (PK c)
     ·intro n s g k x c;rcases V.st n s g k x c with a | ⟨a,b⟩
      ·exact PI a
      ·exact PK ⟨(e x).2 (PI a),b⟩
    ·next d f =>
     have D:w.kind≠7:=(by simpa using d);have E:w.kind≠8:=(by simpa using f);have t:∀(q:Db),(dh q).Ud=q.Ud/\(dh q).Ue=q.Ue/\(dh q).Uk=q.Uk/\(dh q).blocks=q.blocks/\(dh q).Us=q.Us/\(dh q).rbl=q.rbl/\(dh q).kind=q.kind/\(dh q).label=q.label/\(dh q).Ub=q.Ub/\(dh q).Um=q.Um:=fun q=>by
      unfold dh;split <;> simp
     obtain⟨o,r,u,v,y,z,A,B,C,j⟩:=t w;refine V.put p (by omega) o r u rfl v ?_ z rfl
     show(dh w).Us++[⟨(dh w).kind,(dh w).label,(dh w).Ub,(dh w).Um,p,0⟩]=_
     rw[y,A,B,C,j]
theorem Vr.take(V:Vr w)(N:Nm L w)(x:ByteArray)(p:Pl):Vr (aK w x p).2:=by
 unfold aK;split
 ·next l=>exact V.first x (N.none (PI (by simpa using l)))
 ·next l =>
  split
  ·next m=>exact V.keyword x (N.none (PK (by simpa using m)))
  ·next m =>
   split
   ·exact V.fin p
   ·split
    ·unfold bO;split
     ·exact V
     ·exact⟨V.cv,V.av,V.typ,V.tv,V.nd,V.len,V.blk,V.ord,V.c7,V.c8,V.c2,V.c3,V.st,V.ds,V.fl,V.til,V.nest⟩
    ·split
     ·exact V
     ·split
      ·exact⟨V.cv,V.av,V.typ,V.tv,V.nd,V.len,V.blk,V.ord,V.c7,V.c8,V.c2,V.c3,V.st,V.ds,V.fl,V.til,V.nest⟩
      ·split
       ·next o =>
        have a:aC w x=0:=(by simpa using o);unfold aC at a;refine⟨V.cv,V.av,V.typ,V.tv,V.nd,V.len,V.blk,V.ord,?_,?_,?_,?_,V.st,V.ds,V.fl,V.til,V.nest⟩
        ·intro (k:w.kind=7) y b;rcases Qe.1 b with b | b
         ·exact V.c7 k y b
         ·rw[Qd.1 b];rw[PJ (by rw[k];rfl)]at a;intro j;rw[PJ (PK (by unfold cm;rw[(gi _ _).2 j];simp))]at a;cases a
        ·intro (k:w.kind=8) y b;rcases Qe.1 b with b | b
         ·exact V.c8 k y b
         ·rw[Qd.1 b];rw[PG (by rw[k];decide),PJ (by rw[k];rfl)]at a;intro j;rw[PJ (PK (by unfold di;rw[(gi _ _).2 j];simp))]at a;cases a
        ·intro (k:w.kind=2) i y b;have b:(w.Ub++[x])[i]?=XK y:=b;by_cases c:i<w.Ub.length
         ·rw[PC c]at b;exact V.c2 k i y b
         ·have:=(PT.1 b).1;rw[PQ,QZ]at this;have e:i=w.Ub.length:=by omega
          subst e;rw[PR (PB _),Rb]at b;have e:=Qo b;subst e;rw[PG (by rw[k];decide),PG (by rw[k];decide),PG (by rw[k];decide)]at a;by_cases z:w.Ub.length=0
          ·rw[PJ z]at a;refine⟨fun _=>?_,fun h=>absurd z h⟩;unfold dD at a;refine(gi _ _).1 ?_;cases g:aM w.Ud x with
           | true=>rfl
           | false=>rw[PJ g]at a;cases a
          ·rw[PG z,PJ (by rw[k];rfl)]at a;refine⟨fun h=>absurd h z,fun _=>?_⟩;unfold cZ at a;split at a
           ·cases a
           ·split at a
            ·cases a
            ·next d =>
             split at a
             ·cases a
             ·next f=>exact⟨V.av x ((gi _ _).1 (by simpa using d)),(Ol _ _).1 (by simpa using f)⟩
        ·intro (k:3<=w.kind/\w.kind<=5) y b;rcases Qe.1 b with b | b
         ·exact V.c3 k y b
         ·rw[Qd.1 b];have s:(w.kind==7)=XM:=(by rw[P7];omega);have t:(w.kind==8)=XM:=(by rw[P7];omega);have q:(w.kind==1)=XM:=(by rw[P7];omega);have r:(w.kind==2)=XM:=(by rw[P7];omega);rw[PG (by rw[s];simp),PG (by rw[t];simp),PG (by rw[q];simp)]at a;by_cases z:w.Ub.length=0
          ·rw[PJ z]at a;unfold dD at a;refine PI ((gi _ _).1 ?_);cases g:aM w.Ud x with
           | true=>rfl
           | false=>rw[PJ g]at a;cases a
          ·rw[PG z,PG (by rw[r];simp)]at a;unfold cN at a;split at a
           ·next n=>exact PI ((gi _ _).1 n)
           ·split at a
            ·cases a
            ·next d =>
             split at a
             ·cases a
             ·next f=>exact PK ⟨V.av x ((gi _ _).1 (by simpa using d)),(gi _ _).1 (by simpa using f)⟩
       ·exact V
theorem FV(c:∀k,k<=f.size->aF (an f k).1=XL->dz (an f k).1.text=XM->L (an f k).1.text)(a:Nat):∀k d,k<=f.size->Nm L d->Vr d->Vr (cV v f a k d).2:=by
 induction a with
 | zero=>intro k d _ _ h;exact h
 | succ a i =>
  intro k d b h V;have e:=dG f k b;rw[cV];split
  ·next g =>
   split
   ·exact i _ _ e.2.1 (h.take _ _ (c k b g)) (V.take h _ _)
   ·exact V.take h _ _
  ·split
   ·split <;> exact V
   ·exact V
theorem qk:Vr (aJ f).2:=FV _ f (fun k b h a=>pd f k b h a) _ 0 _ (Qm _) Nm.empty Vr.empty
end Go.Proofs.YtnbalopedcgpcaaGreat
