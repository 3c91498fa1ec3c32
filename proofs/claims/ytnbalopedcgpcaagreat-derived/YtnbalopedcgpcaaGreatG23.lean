import Derived.Test.YtnbalopedcgpcaaGreatG22
namespace Go.Proofs.YtnbalopedcgpcaaGreat
open Go.RowKit Tryz
open Value renaming int->Xx,string->Xy,slice->Xz,pointer->XA,agg->XB,bool->XC,tuple->XD
open Obj renaming cells->XE
open IntKind renaming i64->XF
open Ending renaming returned->XH
open World renaming cell?->XI
open Option renaming none->XJ,some->XK
open Bool renaming true->XL,false->XM
open Go.RowKit renaming Hid->XN
open Go renaming Calls->XO,World->XP
set_option maxHeartbeats 0
variable{a I:XP}{b f i D:Nat}{n:ByteArray}{T:List ByteArray}{l:Db}{k:List St}(H:List St)(v w:Nat)(o:List St)(d:List ByteArray)(L:List (List ByteArray))(x:ByteArray)
def GZ(w w':XP)(x:Nat)(fs':Fs)(l:List St):Prop:=∃H g,fC w' x fs' l H g/\w.heap.size<=g/\∀k,cD H k->w.heap.size<=k
def Eq(b x:Nat)(T:ByteArray)(o:Option Nat)(fs':Fs)(r ln cl:Int)(l:List St)(w:XP)(e:Ending)(w':XP):Prop :=
  rX b x T o fs' r ln cl l w e w'/\((r==0)=XL->GZ w w' x fs' l)
set_option maxRecDepth 100000
theorem Gn(t:ByteArray)(o:Option Nat)(fs b:Fs)(r ln cl:Int)(l:List St)(a:XP)(hW:aR a v w x o)(hV:br a w fs)(hx:w≠v)(ht:¬1024<t.size)(hp:iV fs ⟨#[109]⟩ t=(0,b))(ai:l.length<=10000)(VF:∀V,br V w b->XO prog 32 #[XA (XK ⟨w,0,XJ⟩),Xy ⟨#[109]⟩] V fun e X =>
      (if(r==0)=XL then e=XH (XD #[XB #[Xx XF 0,Xy ⟨#[]⟩,Xx XF 0,Xx XF 0],Xx XF 0])/\∃H g,fC X w b l H g/\V.heap.size<=g/\∀k,cD H k->V.heap.size<=k
       else e=XH (XD #[XB #[Xx XF r,Xy ⟨#[109]⟩,Xx XF ln,Xx XF cl],Xx XF 6])/\fy X w b)/\aa [w] V X) :
    XO prog 29 #[XA (XK ⟨v,0,XJ⟩),Xy t] a fun e V=>Eq v w x o b r ln cl l a e V:=by
  have bq:=hW.lt;have b0:=hV.lt;obtain⟨c0,c1,-⟩:=hW.cells;obtain⟨W,m⟩:∃W,W=(a.alloc (XE #[Xz XJ 0 0,Xx XF 0,Xy ⟨#[]⟩,Xx XF 0,Xx XF 0,Xx XF 0] 87)).alloc (XE #[Xz XJ 0 0,Xx XF 0,Xy ⟨#[]⟩,Xx XF 0,Xx XF 0,Xx XF 0] 87):=⟨_,rfl⟩
  have j:aa [] a W:=by rw[m];exact((aa.refl _ _).alloc _).alloc _
  have s0:W.heap[a.heap.size]?=XK (XE #[Xz XJ 0 0,Xx XF 0,Xy ⟨#[]⟩,Xx XF 0,Xx XF 0,Xx XF 0] 87):=by
    rw[m];exact((aa.refl [] _).alloc _).get (PM _ _) (by simp)
  have s1:W.heap[a.heap.size+1]?=XK (XE #[Xz XJ 0 0,Xx XF 0,Xy ⟨#[]⟩,Xx XF 0,Xx XF 0,Xx XF 0] 87):=by
    rw[m];have e:(a.alloc (XE #[Xz XJ 0 0,Xx XF 0,Xy ⟨#[]⟩,Xx XF 0,Xx XF 0,Xx XF 0] 87)).heap.size=a.heap.size+1:=by simp
    rw[<-e];exact PM _ _
  have HW:XN _:=m.symm;have PF:=pL w ⟨#[109]⟩ t fs W (hV.kept j (by simp)) (by simp[ByteArray.size]) (by omega);rw[hp]at PF;have a5:XN _:=PF;have a9:XN _:=VF;clear PF m hp VF;have bk:a.heap.size≠w:=by omega
  have bl:a.heap.size+1≠w:=by omega
  have d:w∉[a.heap.size,a.heap.size+1]:=by simp;omega
  have D:v∉[a.heap.size,a.heap.size+1]:=by simp;omega
  have ap:=hW.rows.lt;have z:XN (∀g,o=XK g->g∉[a.heap.size,a.heap.size+1]):=fun g N=>by have:=ap g N;simp;omega
  clear ap;have bx:=fun(wx:XP)=>Lib.run_eql_slice_nil (P:=prog) wx 49 69 XJ 0 0 0 0 underlying49;have bd:XN (aR W v w x o):=hW.Ur j;clear hW;go_enter func29,ntmps29;go_wp2_with fail;rw[HW.out];refine PU a5.out ?_;rintro e w2 ⟨rfl,-,B,i⟩;have B:=B trivial;have E:=i.get s0 (by simp;omega);have F:=i.get s1 (by simp;omega);have L:XN (aR w2 v w x o):=bd.out.keptX i hx;have G:aa [w] a w2:=(j.mono (by simp)).trans i;obtain⟨y0,y1,y2,y3,y4,y5⟩:=bG E;obtain⟨z0,z1,z2,z3,z4,z5⟩:=bG F;have f0:=aw E;have f1:=aw F;clear c0 c1;obtain⟨c0,c1,-⟩:=L.out.cells;have bg:=L.out.lt;have bw:=i.size;have bo:=ae s1;have J:XN (∀aq,fy (w2.setCell ⟨a.heap.size+1,5,XJ⟩ aq) w b):=fun aq=>B.kept (S:=[a.heap.size,a.heap.size+1]) ((aa.refl _ _).setCell (P0 (by simp)) _) d;go_wp2_with (go_at_call 33;refine(kT w b _ (by exact J.out _)).mono ?_;rintro e Y ⟨rfl,rfl⟩);refine PU (a9.out _ (by exact(J.out _).anyR)) ?_;rintro e y ⟨c,n⟩;have s:=n.get ((P9 w2 ⟨a.heap.size+1,5,XJ⟩ (Xx XF 0) a.heap.size (by simp)).trans E) (by simp;omega);have u:y.heap[a.heap.size+1]?=XK (XE #[Xz XJ 0 0,Xx XF 0,Xy ⟨#[]⟩,Xx XF 0,Xx XF 0,Xx XF 0] 87):=n.get ((af F 5 (Xx XF 0)).trans (by simp)) (by simp;omega);have A:XN (aR y v w x o):=(L.out.kept (S:=[a.heap.size,a.heap.size+1]) ((aa.refl _ _).setCell (P0 (by simp)) _) D z.out).keptX n hx;have Q:aa [w] a y:=(G.setCell (P7 (by simp)) _).trans n;have b1:=ae u;have am:=ae s;have bp:=A.out.lt;clear y0 y1 y2 y3 y4 y5 z0 z1 z2 z3 z4 z5 f0 f1 c0 c1 E F s0 s1 G i n J B;obtain⟨y0,y1,y2,y3,y4,y5⟩:=bG s;obtain⟨z0,z1,z2,z3,z4,z5⟩:=bG u;have f0:=aw s;have f1:=aw u;obtain⟨c0,c1,-⟩:=A.out.cells;cases Z:(r==0)
  · simp only[Z,Bool.false_eq_true,if_false]at c
    obtain⟨rfl,ad⟩:=c;have bv:(r != 0)=XL:=(by simp[bne,Z]);have HB:XN (∀a0 a1 a2 a3 a4 I,fy ((((((y.setCell ⟨a.heap.size+1,1,XJ⟩ a0).setCell ⟨a.heap.size+1,2,XJ⟩ a1).setCell ⟨a.heap.size+1,3,XJ⟩ a2).setCell ⟨a.heap.size+1,4,XJ⟩ a3).setCell ⟨a.heap.size+1,5,XJ⟩ a4).alloc I) w b):=fun a0 a1 a2 a3 a4 I=>ad.kept (d6 (aa.refl [a.heap.size,a.heap.size+1] y) (P0 (by simp)) _ _ _ _ _ _) d;go_wp2_with (go_at_call 33;refine(kT w b _ (by exact HB.out _ _ _ _ _ _)).mono ?_;rintro e Y ⟨rfl,rfl⟩);go_region
    all_goals go_wp2
    all_goals
      refine Qg (v:=eG (Xz XJ 0 0) r ⟨#[109]⟩ ln cl 6) (by simp[results,results29,go_sem,eG,am,y0,y1,y2,y3,y4,y5]) rfl ?_;refine⟨Hx Z ?_ ?_ ?_,fun h=>by rw[Z]at h;cases h⟩
      · exact A.out.kept (S:=[a.heap.size,a.heap.size+1]) (gV (p:=a.heap.size) (q:=a.heap.size+1) (aa.refl _ _) (P0 (by simp)) (P0 (by simp)) _ _ _ _ _ _ _ _ _ _ _ _ _) D z.out
      · exact ad.anyR.kept (S:=[a.heap.size,a.heap.size+1]) (gV (p:=a.heap.size) (q:=a.heap.size+1) (aa.refl _ _) (P0 (by simp)) (P0 (by simp)) _ _ _ _ _ _ _ _ _ _ _ _ _) d
      · exact gV (p:=a.heap.size) (q:=a.heap.size+1) Q (P7 (PQ _)) (P7 (by omega)) _ _ _ _ _ _ _ _ _ _ _ _ _
  · simp only[Z,if_true]at c
    obtain⟨rfl,H,g,C,bf,M⟩:=c;simp only[World.size_setCell]at bf M;have O:g∉[a.heap.size,a.heap.size+1]:=(by simp;omega);have K:XN (∀k,cD H k->k∉[a.heap.size,a.heap.size+1]):=fun k hk=>by have:=M k hk;simp;omega
    have bs:=fun(wx:XP)=>Dw wx;go_wp2_with fail;refine(vV w b l H g _ (by exact C.kept (d6 (aa.refl [a.heap.size,a.heap.size+1] y) (P0 (by simp)) _ _ _ _ _ _) d O K.out) ai).mono ?_;rintro e Y ⟨I,rfl,ag,ah,f⟩;obtain⟨ao,n9,be,R⟩:=fw I (f9 l).length;rw[R];have U:=f.get (sG u _ _ _ _ _ _) (by simp);have T:=f.get ((d6 (aa.refl [a.heap.size+1] y) (P0 (by simp)) _ _ _ _ _ _).get s (by simp)) (by simp);have K9:aa [w] a Y:=(d6 Q (P7 (by omega)) _ _ _ _ _ _).trans (f.mono (by simp));have bc:XN (aR Y v w x o):=(A.out.kept (d6 (aa.refl [a.heap.size,a.heap.size+1] y) (P0 (by simp)) _ _ _ _ _ _) D z.out).Ur f;have a8:XN (br Y w b):=(C.anyR.kept (d6 (aa.refl [a.heap.size,a.heap.size+1] y) (P0 (by simp)) _ _ _ _ _ _) d).kept f (by simp);have az:XN (dq Y I (f9 l)):=ag;have a6:XN (fC Y w b l H g):=(C.kept (d6 (aa.refl [a.heap.size,a.heap.size+1] y) (P0 (by simp)) _ _ _ _ _ _) d O K.out).Ur f;have av:XN (a.heap.size<=g/\∀k,cD H k->a.heap.size<=k):=⟨by omega,fun k hk=>by have:=M k hk;omega⟩;have ac:XN (∀g,I=XK g->a.heap.size+2<=g):=fun g N=>by have:=ah g N;simp at this;omega
    have a7:XN _:=R;clear y0 y1 y2 y3 y4 y5 z0 z1 z2 z3 z4 z5 f0 f1 c0 c1 s u Q f ag ah R C;obtain⟨y0,y1,y2,y3,y4,y5⟩:=bG T;obtain⟨z0,z1,z2,z3,z4,z5⟩:=bG U;have f0:=aw T;have f1:=aw U;have b2:=ae U;have bm:=ae T;go_wp2_with fail;go_region
    all_goals go_wp2
    all_goals
      refine Qg (v:=eG (Xz ao n9 be) 0 ⟨#[]⟩ 0 0 0) (by simp[results,results29,go_sem,eG,y0,y1,y2,y3,y4,y5]) rfl ?_;refine⟨EF Z (ob:=I) a7.out ?_ (fun g N=>by have:=ac.out g N;omega) ?_ ?_ ?_,fun _=>⟨H,g,a6.out.kept (S:=[a.heap.size,a.heap.size+1]) (fj (p:=a.heap.size) (q:=a.heap.size+1) (aa.refl _ _) (P0 (by simp)) (P0 (by simp)) _ _ _ _ _ _ _) d O K.out,av.out⟩⟩
      · exact dq.kept az.out (S:=[a.heap.size,a.heap.size+1]) (fj (p:=a.heap.size) (q:=a.heap.size+1) (aa.refl _ _) (P0 (by simp)) (P0 (by simp)) _ _ _ _ _ _ _) (fun g N=>by have:=ac.out g N;simp;omega)
      · exact bc.out.kept (S:=[a.heap.size,a.heap.size+1]) (fj (p:=a.heap.size) (q:=a.heap.size+1) (aa.refl _ _) (P0 (by simp)) (P0 (by simp)) _ _ _ _ _ _ _) D z.out
      · exact a8.out.kept (S:=[a.heap.size,a.heap.size+1]) (fj (p:=a.heap.size) (q:=a.heap.size+1) (aa.refl _ _) (P0 (by simp)) (P0 (by simp)) _ _ _ _ _ _ _) d
      · exact fj (p:=a.heap.size) (q:=a.heap.size+1) K9 (P7 (PQ _)) (P7 (by omega)) _ _ _ _ _ _ _
def fd(w:XP)(x n N:Nat)(t:ByteArray):Prop:=∃fs H g,fC w x fs (aJ t).2.UD H g/\n<=g/\(∀k,cD H k->n<=k)/\or N fs
theorem fd.Ur(h:fd a b f i n)(k:aa [] a I):fd I b f i n:=by
 obtain⟨c,H,g,d,e,j,l⟩:=h;exact⟨c,H,g,d.Ur k,e,j,l⟩
theorem fd.keptB(h:fd a b f i n)(k:aa [D] a I)(o:b≠D)(p:D<f):fd I b f i n:=by
 obtain⟨d,H,g,e,j,c,l⟩:=h;exact⟨d,H,g,e.kept k (by simpa using o) (by simp;omega) (fun k m=>by have:=c k m;simp;omega),j,c,l⟩
theorem fd.down(h:fd a b f D n)(o:i<=f):fd a b i D n:=by
 obtain⟨c,H,g,d,m,e,j⟩:=h;exact⟨c,H,g,d,by omega,fun k l=>by have:=e k l;omega,j⟩
theorem kM{N:Nat}(C:N<=3)(b x:Nat)(T t:ByteArray)(o:Option Nat)(j:Fs)(w:XP)(F:aR w b x T o)(E:br w x j)(M:x≠b)(s:¬1024<t.size)(B:or N j)(d:cS t=XM) :
  XO prog 29 #[XA (XK ⟨b,0,XJ⟩),Xy t] w fun e i=>mr N b x T t o w e i/\(((aJ t).1.1==0)=XL->fd i x w.heap.size N t):=by
 obtain⟨k,a,L,K,q,I,r,n,c⟩:=MY C j t B s;have u:=iB t (by omega) d;refine(Gn b x T t o j a (aJ t).1.1 (aL t (aJ t).1.2) (bA t (aJ t).1.2) (aJ t).2.UD w F E M s L u.ok.len (fun i v=>AC x k a t i v I K q r n c.2 d)).mono ?_;rintro e i ⟨⟨O,G,D,J,m,l,p⟩,f⟩;refine⟨⟨O,?_,D,J,m,⟨a,l,c⟩,p⟩,fun h=>?_⟩
 ·rw[G];rfl
 ·obtain⟨H,g,y,z,A⟩:=f h;exact⟨a,H,g,y,z,A,c⟩
theorem uN(hN:b<=3)(j x:Nat)(T:ByteArray)(o:Option Nat)(J:Fs)(w:XP)(N:aR w j x T o)(hV:br w x J)(hx:x≠j)(Z:or b J)(z:dV T) :
  XO prog 31 #[XA (XK ⟨j,0,XJ⟩)] w fun e v=>rV b j x T o w e v/\fd v x w.heap.size b T:=by
 obtain⟨U,V,-⟩:=N.cells;have ad:=N.lt;have E:=kM hN j x T T o J w N hV hx (by have:=z.size;omega) Z z.inc;unfold mr at E;have B:XN _:=E;have m:=z.zero;have t:=z.rws;clear E;go_enter func31,ntmps31;go_wp2_with fail;refine PU B.out ?_;rintro e n ⟨⟨S,rfl,g,ag,a,⟨K,M,L⟩,O⟩,l⟩;have p:XN (fd n x w.heap.size b T):=l m;clear l;have g:=g m;unfold Aj;rw[PZ m];have F:=fun(v:XP) (k:aa [] n v)=>pE S o (bu T) v (g.Ur k) (a.rows.Ur k) t;have s:=a.lt;obtain⟨W,X,I⟩:=a.cells;obtain⟨q,R,r,c⟩:=fw S (bu T).length;obtain⟨G,n2,H,d⟩:=fw o (bu T).length;rw[c,d]at F;rw[d]at I;rw[c];have C:XN _:=F;clear F c d t g U V;simp only[eG];go_upto_region 2 with fail
 obtain⟨f,i⟩:∃f,f=n.alloc (XE #[Xz q R r,Xx XF 0,Xy ⟨#[]⟩,Xx XF 0,Xx XF 0,Xx XF 0] 87):=⟨_,rfl⟩
 have u:aa [] n f:=by rw[i];exact(aa.refl [] _).alloc _
 have A:f.heap[n.heap.size]?=XK (XE #[Xz q R r,Xx XF 0,Xy ⟨#[]⟩,Xx XF 0,Xx XF 0,Xx XF 0] 87):=by rw[i];exact PM _ _
 rw[<-i];have s0:=(bG A).1;have Y:XI f ⟨j,2,XJ⟩=XK (Xz G n2 H):=by
  have:=(a.Ur u).cells.2.2;rw[Qy (u.block j s (by simp))];exact I
 have ac:j<f.heap.size:=PY s u.size;clear i W X I;go_region_with (go_at_call 63;refine(C.out _ (by exact u.trans (aa.refl [] f).drew)).mono ?_;rintro e w4 ⟨rfl,Q⟩)
 all_goals
  have y:aa [] n w4:=(u.trans (aa.refl [] f).drew).trans Q;have P:=Q.get ((aa.refl [] f).drew.get A (by simp)) (by simp);obtain⟨-,-,-,-,-,s5⟩:=bG P;have D:XN _:=a.Ur y;have ah:=ae P;clear s0 Y A;go_wp2;go_ret;exact⟨⟨rfl,D.out,⟨K,M.kept y (by simp),L⟩,O.trans (y.mono (by simp))⟩,fd.Ur p.out y⟩
def AT(N b x:Nat)(w:XP)(e:Ending)(w':XP):Prop :=
 e=XH (XC XL)/\(∃T' o',aR w' b x T' o'/\dV T'/\(bu T'=[]∨fd w' x (b+1) N T'))/\(∃fs',br w' x fs'/\or N fs')/\aa [b,x] w w'
theorem Bi{N:Nat}(hN:N<=3)(b x:Nat)(T c:ByteArray)(o:Option Nat)(K:Fs)(w:XP)(X:aR w b x T o)(hV:br w x K)(L:x≠b)(hM:or N K)(t:dV T)(hc:c.size<=1073741824)(ao:XN (bu T=[]∨fd w x (b+1) N T)) :
  XO prog 19 #[XA (XK ⟨b,0,XJ⟩),Xy c] w fun e w'=>AT N b x w e w':=by
 have a0:=t.size;have a3:=X.lt;have a9:=hV.lt;obtain⟨c0,c1,-⟩:=X.cells;cases hh:cS c
 ·have Y:(T++⟨#[10]⟩++c).size=T.size+1+c.size:=by simp only[ByteArray.size_append];rfl
  have HU:XN (∀U,U=T++⟨#[10]⟩++c->U.size=T.size+1+c.size/\cS U=XM/\((aJ U).1.1≠0->aL T T.size+1<=aL U (aJ U).1.2)/\∃m,bu U=bu T++m):=by
   intro U l;subst l;exact⟨Y,BE T c t.inc hh,Fv T c t,Gi T c t⟩
  clear Y;go_enter func19,ntmps19;go_wp2_with (go_at_call 55;refine(sV _ _ (by omega)).mono ?_;rintro e w9 ⟨rfl,I⟩;rw[I]);obtain⟨U,l⟩:∃U,U=T++⟨#[10]⟩++c:=⟨_,rfl⟩
  rw[<-l];obtain⟨u1,u3,u4,m,u5⟩:=HU.out U l;clear l HU;by_cases hl:1024<U.size
  ·refine(tP b x T U o K _ X hV L hl (by omega)).mono ?_;rintro e y ⟨rfl,a,u,v⟩;simp only[eG];have G:=a.lt;go_wp2_with fail;refine(uN hN b x T o K _ (a.Ur ((aa.refl [] _).alloc _)) (u.kept ((aa.refl [] _).alloc _) (by simp)) L hM t).mono ?_;rintro e w3 ⟨⟨rfl,d,⟨D,F,E⟩,H⟩,i⟩;go_wp2;go_ret;exact⟨rfl,⟨T,o,d,t,P7 (i.down (by simp;omega))⟩,⟨D,F,E⟩,((v.mono (by simp)).alloc _).trans (H.mono (by simp))⟩
  ·refine(kM hN b x T U o K _ X hV L hl hM u3).mono ?_;rintro e y ⟨⟨Z,rfl,f,ap,a,⟨C,u,W⟩,v⟩,A⟩;have z:XN _:=A;clear A;unfold Aj;have G:=a.lt;have FU:XN (((aJ U).1.1==0)=XL->dV U):=fun h=>⟨by omega,by simpa using h,u3⟩
   obtain⟨r,HR⟩:∃r,XN ((aJ U).1.1=r):=⟨_,rfl⟩
   obtain⟨p,HP⟩:∃p,XN ((aJ U).1.2=p):=⟨_,rfl⟩
   rw[HR.out]at f u4 FU z ⊢;rw[HP.out]at u4 ⊢;cases hr:(r==0)
   ·simp only[Bool.false_eq_true,if_false,eG];have a5:=rL T T.size;have a6:=u4 (by simpa using hr);have a7:=rL U p;clear u4 f FU c0 c1;obtain⟨c0,c1,-⟩:=a.cells;go_wp2_with (go_at_call 57;refine(Fn _ _ (by omega)).mono ?_;rintro e w9 ⟨rfl,I⟩;subst I);refine(uN hN b x T o C _ (a.Ur ((aa.refl [] _).alloc _)) (u.kept ((aa.refl [] _).alloc _) (by simp)) L W t).mono ?_;rintro e w3 ⟨⟨rfl,d,⟨D,F,E⟩,H⟩,i⟩;go_wp2;go_ret;exact⟨rfl,⟨T,o,d,t,P7 (i.down (by simp;omega))⟩,⟨D,F,E⟩,((v.mono (by simp)).alloc _).trans (H.mono (by simp))⟩
   ·simp only[if_true];have f:=f hr;have O:XN _:=FU.out hr;have BG:=fun(w':XP) (k:aa [] y w')=>si o Z (bu T) m w' (a.rows.Ur k) (by rw[<-u5];exact f.Ur k) (by rw[<-u5];exact O.out.rws);rw[<-u5]at BG;obtain⟨d0,d1,d2⟩:=a.cells;obtain⟨S,n1,V,j⟩:=fw Z (bu U).length;obtain⟨ai,n2,am,q⟩:=fw o (bu T).length;rw[j,q]at BG;rw[q]at d2;rw[j];have ac:XN _:=BG;have P:XN _:=j;have ag:XN (dq y Z (bu U)):=f;clear BG j q u5 f u4 FU c0 c1 u3 hl;simp only[eG];(go_upto_region 9 with fail);obtain⟨s,d⟩:∃s,s=y.alloc (XE #[Xz S n1 V,Xx XF 0,Xy ⟨#[]⟩,Xx XF 0,Xx XF 0,Xx XF 0] 87):=⟨_,rfl⟩
    have k3:aa [] y s:=(by rw[d];exact(aa.refl [] _).alloc _);have B3:s.heap[y.heap.size]?=XK (XE #[Xz S n1 V,Xx XF 0,Xy ⟨#[]⟩,Xx XF 0,Xx XF 0,Xx XF 0] 87):=(by rw[d];exact PM _ _);rw[<-d];have s0:=(bG B3).1;have e2:XI s ⟨b,2,XJ⟩=XK (Xz ai n2 am):=by
     rw[Qy (k3.block b G (by simp))];exact d2
    have a1:b<s.heap.size:=PY G k3.size;clear d d0 d1 d2;go_region_with (go_at_call 56;refine(ac.out _ (by exact k3.trans (aa.refl [] s).drew)).mono ?_;rintro e M ⟨rfl,k4⟩)
    all_goals
     have J:aa [] y M:=(k3.trans (aa.refl [] s).drew).trans k4;have B4:=k4.get ((aa.refl [] s).drew.get B3 (by simp)) (by simp);obtain⟨t0,-,-,-,-,-⟩:=bG B4;have n:=a.Ur J;have bc:=ae B4;have a2:=n.lt;obtain⟨f0,f1,f2⟩:=n.cells;obtain⟨av,n3,az,B⟩:=fw o (bu T).length;rw[B]at f2;have a4:=aw n.blk;have a8:b≠y.heap.size:=(by omega);have aq:y.heap.size≠b:=(by omega);have R:XN _:=(n.text U Z (ag.out.Ur J) (fun g hg=>by have:=ap g hg;omega));rw[P.out]at R;have ah:XN (br M x C):=u.kept J (by simp);have Q:XN (fd M x (b+1) N U):=((z.out hr).Ur J).down (by omega);have ad:XN (aa [b,x] w M):=(v.mono (by simp)).trans (J.mono (by simp));clear s0 e2 B3 n B B4 k4 J;go_wp2;go_ret;exact⟨rfl,⟨U,Z,R.out,O.out,P7 (Q.out.keptB (qD M b _ _) L (by omega))⟩,⟨C,ah.out.kept (qD M b _ _) (by simpa using L),W⟩,(ad.out.setCell (P0 (by simp)) _).setCell (P0 (by simp)) _⟩
 ·go_enter func19,ntmps19;go_wp2_with (go_at_call 55;refine(sV _ _ (by omega)).mono ?_;rintro e w9 ⟨rfl,rfl⟩);go_ret;exact⟨rfl,⟨T,o,X,t,ao.out⟩,⟨K,hV,hM⟩,aa.refl _ _⟩
def MH(w0 w:XP)(b x:Nat):Prop:=w0.heap.size<=b/\w0.heap.size<=x/\x≠b/\(∃T o,aR w b x T o/\dV T/\(bu T=[]∨fd w x (b+1) 0 T))/\(∃fs,br w x fs/\or 0 fs)
theorem BC(E:Option Addr)(y:Nat)(l:List ByteArray)(w:XP)(hl:l.length<=1073741824)(C:∀i,i<l.length->(l.getD i ⟨#[]⟩).size<=1073741824)(R:l.length=0∨∃b j,E=XK ⟨b,j,XJ⟩/\iD w b j l) :
  XO prog 10 #[Xz E l.length y] w fun e Q=>∃b x,e=XH (XD #[XA (XK ⟨b,0,XJ⟩),XC XL])/\MH w Q b x/\aa [] w Q:=by
 go_enter func10,ntmps10;go_wp2_with fail;refine(DR _).mono ?_;rintro e u ⟨rfl,p,t⟩;have W:=p.anyR.lt;have q:aR (u.alloc (XE #[XA (XK ⟨w.heap.size,0,XJ⟩),Xy ⟨#[]⟩,Xz XJ 0 0,Xx XF 0,Xz XJ 0 0,Xz XJ 0 0,Xz XJ 0 0,Xz XJ 0 0,Xz XJ 0 0] 60)) u.heap.size w.heap.size ⟨#[]⟩ XJ :=
  ⟨PM _ _,qV,fun g L=>by cases L⟩
 have v:XN _:=q;clear q;have V:=t.size;go_wp2
 go_loopg [6,7] l.length (fun g i _ wr=>∃(k:Nat),k<=l.length/\g=l.length-k/\i=Xx XF k/\MH w wr u.heap.size w.heap.size/\aa [] w wr)
 case atStart=>exact⟨0,by omega,by omega,rfl,⟨by omega,PQ _,by omega,⟨_,_,v.out,Bt,P0 qV⟩,⟨[],p.anyR.kept ((aa.refl [] _).alloc _) (by simp),P7 ⟨rfl,by simp⟩,yR⟩⟩,t.alloc _⟩
 case round =>
  obtain⟨k,hk,L,rfl,⟨O,P,D,⟨T,o,K,I,n⟩,⟨G,J,H⟩⟩,a⟩:=hrel;have m:XN _:=n;clear n;by_cases f:k<l.length
  ·rcases R with Z | ⟨Y,j,rfl,r⟩
   ·omega
   ·have S:=r.1;have U:=(r.kept a (by simp)).2 k f;have F:l.getD k ⟨#[]⟩=l[k]:=(by rw[PK,PJ f];rfl);have s:=C k f;rw[F]at s;generalize l[k]=c at *;clear F;go_wp2_with fail;refine(Bi (N:=0) (by omega) u.heap.size w.heap.size T c o G _ K J D H I s m).mono ?_;rintro e X ⟨rfl,A,z,d⟩;have B:aa [] w X:=⟨d.os.trans a.os,d.tape.trans a.tape,d.output.trans a.output,Qk a.size d.size,fun i M _=>(d.block i (PY M a.size) (by simp;omega)).trans (a.block i M (by simp))⟩;go_wp2;go_roundg (l.length-(k+1))
    case measure=>omega
    case rel=>exact⟨k+1,by omega,rfl,by go_num,⟨O,P,D,A,z⟩,B⟩
  ·go_wp2;go_ret2;exact⟨u.heap.size,w.heap.size,rfl,⟨O,P,D,⟨T,o,K,I,m.out⟩,⟨G,J,H⟩⟩,a⟩
structure KE(D:Type) where
 one:D
 mul:D->D->D
 ok:ByteArray->D->Prop
 ap:D->D->Prop
 oneL:∀a,mul one a=a
 oneR:∀a,mul a one=a
 assoc:∀a b c,mul (mul a b) c=mul a (mul b c)
 apOL:∀c,ap one c
 apOR:∀c,ap c one
 apL:∀a b c,ap a c->ap b c->ap (mul a b) c
 apR:∀a b c,ap c a->ap c b->ap c (mul a b)
def GJ{D:Type}(M:KE D)(V:ByteArray->D):List ByteArray->D
 | []=>M.one
 | x :: r=>M.mul (V x) (GJ M V r)
theorem NU{D:Type}(M:KE D)(V:ByteArray->D)(a b:List ByteArray):GJ M V (a++b)=M.mul (GJ M V a) (GJ M V b):=by
 induction a with
 | nil=>simp[GJ,M.oneL]
 | cons x r c=>simp only[List.cons_append,GJ,c,M.assoc]
def Pk{D:Type}(M:KE D)(V:ByteArray->D)(us:List ByteArray)(bs:List (List ByteArray))(x:ByteArray):D:=GJ M V (lr us bs x)
theorem Mx{D:Type}(M:KE D)(V:ByteArray->D)(c:List ByteArray)(b:List (List ByteArray))(a:List ByteArray):GJ M V (a.flatMap (lr c b))=GJ M (Pk M V c b) a:=by
 induction a with
 | nil=>rfl
 | cons x r d=>rw[QH,NU,d];rfl
theorem ON(b a:List ByteArray):a.length<=(eC d L b a).length:=by
 induction b generalizing a with
 | nil=>exact PQ _
 | cons x r c =>
  unfold eC;split
  ·exact Qk (by simp) (c _)
  ·exact PQ _
theorem FZ(b a:List ByteArray)(h:(eC d L b a).length<=32):eC d L b a=a++b.flatMap (lr d L):=by
 induction b generalizing a with
 | nil=>simp[eC]
 | cons x r c =>
  unfold eC at h ⊢;split
  ·rename_i g;rw[PZ g]at h;rw[c _ h,QH,QY]
  ·rename_i g;rw[PV g]at h;exact absurd h g
def Ot{D:Type}(M:KE D)(V:ByteArray->D)(e:List ByteArray):Prop:=match e with
 | []=>True
 | t :: r=>M.ok t (GJ M V r)
theorem O0{D:Type}(M:KE D)(V:ByteArray->D)(a:List ByteArray)(b:List (List ByteArray))(t:ByteArray)(r:List ByteArray)(d:aZ a t=XJ)(c:(gS a b (t :: r)).length<=32) :
  Ot M V (gS a b (t :: r)) ↔ Ot M (Pk M V a b) (t :: r):=by
 have e:gS a b (t :: r)=t :: r.flatMap (lr a b):=by
  unfold gS at c ⊢;rw[FZ _ _ _ _ c,RV,QH];have:lr a b t=[t]:=by unfold lr;rw[d]
  rw[this];rfl
 rw[e];show M.ok t _ ↔ M.ok t _;rw[Mx]
theorem Pe{D:Type}(M:KE D)(V:ByteArray->D)(a b:List ByteArray)(h:∀x∈a,∀y∈b,M.ap (V x) (V y)):M.ap (GJ M V a) (GJ M V b):=by
 have f:∀c:D,∀b:List ByteArray,(∀y∈b,M.ap c (V y))->M.ap c (GJ M V b):=by
  intro c b
  induction b with
  | nil=>intro _;exact M.apOR c
  | cons y r e=>intro h;exact M.apR _ _ _ (h y (by simp)) (e (fun z d=>h z (by simp[d])))
 induction a with
 | nil=>exact M.apOL _
 | cons x r e=>exact M.apL _ _ _ (f _ _ (fun y g=>h x (by simp) y g)) (e (fun z d=>h z (by simp[d])))
theorem NF(a:List ByteArray)(x:ByteArray):aZ a x=a.findIdx? (fun y=>y.toList==x.toList):=by
 unfold aZ
 induction a with
 | nil=>rfl
 | cons y r b =>
  rw[QG,List.range_succ_eq_map,Ud,List.findIdx?_cons];cases h:(y.toList==x.toList) with
  | true=>simp[h]
  | false =>
   simp only[List.getD_cons_zero,h,List.find?_map,Bool.false_eq_true,if_false];rw[<-b];rfl
theorem Jj(h:aZ T n=XK b):b<T.length:=by
 have:=Qm h;simpa using this
def jR(l:List St)(hs:List Nat):List ByteArray:=hs.filterMap (fun h=>if((l.getD h dJ).kind==3)=XL then XJ else XK (ak (l.getD h dJ)))
structure Pb(l:List St)(hs:List Nat):Prop where
 two:∀h∈hs,((l.getD h dJ).kind==3)=XM->(l.getD h dJ).Um=[ax (l.getD h dJ),ak (l.getD h dJ)]
 ess:∀h∈hs,(l.getD h dJ).Um≠[]
 tc:∀h∈hs,aZ (jR l hs) (ax (l.getD h dJ))=XJ
 uq:(jR l hs).Nodup
 pre:∀ah h bs,hs=ah++h :: bs->((l.getD h dJ).kind==3)=XL->∀x∈(l.getD h dJ).Um,aZ (jR l ah) x=XJ->aZ (jR l bs) x=XJ
theorem rG(a b:List Nat):jR o (a++b)=jR o a++jR o b:=by unfold jR;rw[Q0]
theorem dU:aZ T n=XJ ↔ n∉T:=by
 rw[NF,List.findIdx?_eq_none_iff];constructor
 ·intro h m;have:=h n m;simp at this
 ·intro h y a;cases c:(y.toList==n.toList) with
  | false=>rfl
  | true=>exact absurd (eD (Rr c) ▸ a) h
abbrev eQ (l:List St) (n:Nat):List ByteArray:=jR l (al l n)
def OX(l:List St)(n:Nat)(x:ByteArray):Prop:=x∈(l.getD n dJ).Um∨∃h∈al l n,x∈(l.getD h dJ).Um
def O6{D:Type}(M:KE D)(K:ByteArray->D)(l:List St)(n:Nat):Prop :=
 ∀V:ByteArray->D,(∀x,OX l n x->aZ (eQ l n) x=XJ->V x=K x)->(∀h∈al l n,Ot M V (l.getD h dJ).Um) ->
  (∀i j,i<j->j<(eQ l n).length->cR (eQ l n).length (cT l n (eQ l n)) i j=XL->M.ap (V ((eQ l n).getD i ⟨#[]⟩)) (V ((eQ l n).getD j ⟨#[]⟩)))->Ot M V (l.getD n dJ).Um
structure N5(l:List St)(n:Nat):Prop where
 hy:Pb l (al l n)
 ne:(l.getD n dJ).Um≠[]
 tc:aZ (eQ l n) (ax (l.getD n dJ))=XJ
theorem vB(f:T.Nodup)(a:b<T.length):aZ T (T.getD b ⟨#[]⟩)=XK b:=by
 have c:T.getD b ⟨#[]⟩=T[b]:=by rw[PK,PJ a];rfl
 cases g:aZ T (T.getD b ⟨#[]⟩) with
 | none=>rw[dU,c]at g;exact absurd (PT a) g
 | some j =>
  have d:=Jj g;have e:=Rp g;have e:=eD (Rr e);rw[c,PK,PJ d]at e;have:=(List.getElem_inj f).1 (show T[j]=T[b] from e);rw[this]
structure PB{D:Type}(M:KE D)(K V:ByteArray->D)(l:List St)(a:Nat)(vs:List ByteArray)(ms:List Bool)(steps:List gY):Prop where
 hyp:∀s∈steps,(s.kind==3)=XM->fE l s.Un=XM->Ot M V (l.getD s.Un dJ).Um/\(l.getD s.Un dJ).Um≠[]
 ass:∀s∈steps,(s.kind==3)=XM->fE l s.Un=XL->N5 l s.Un/\O6 M K l s.Un/\∀x,OX l s.Un x->aZ (eQ l s.Un) x=XJ->V x=K x
 con:∀x,aZ vs x=XJ->∀d,M.ap (V x) d/\M.ap d (V x)
 par:∀i j,i<vs.length->j<vs.length->cR vs.length ms i j=XL->∀x y,aZ vs x=XK i->aZ vs y=XK j->M.ap (V x) (V y)
theorem gj:aM d x=XL ↔ x∈d:=by
 unfold aM;rw[SZ];exact⟨fun⟨y,h,e⟩=>eD (Rr e) ▸ h,fun h=>⟨x,h,by simp⟩⟩
theorem Ou:aM d x=XM ↔ x∉d:=by
 rw[<-gj,Bool.not_eq_true]
def AI(s:St):ByteArray:=s.Um.getD 1 ⟨#[]⟩
def pi(s:St):Option ByteArray:=if s.kind=2/\s.til=0 then XK (AI s) else XJ
def tm(l:List St):List ByteArray:=l.filterMap pi
structure Vr(d:Db):Prop where
 cv:∀x∈d.Uo,x∉d.Up
 av:∀x∈d.Uv,x∈d.Up
 typ:d.Uy=tm d.UD
 tv:∀x∈d.Uy,x∈d.Up
 nd:d.Uy.Nodup
 len:d.blocks.length=d.rbl.length
 blk:∀(i:Nat) (p:Nat×Nat) (b:Nat),d.blocks[i]?=XK p->d.rbl[i]?=XK b->b<=d.UD.length/\p.2<=d.Uy.length/\tm (d.UD.take b)=d.Uy.take p.2
 ord:∀i j b c:Nat,i<=j->d.rbl[i]?=XK b->d.rbl[j]?=XK c->b<=c
 c7:d.kind=7->∀x∈d.Um,x∉d.Up
 c8:d.kind=8->∀x∈d.Um,x∉d.Uo
 c2:d.kind=2->∀(i:Nat) x,d.Um[i]?=XK x->(i=0->x∈d.Uo)/\(i≠0->x∈d.Up/\x∉d.Uy)
 c3:3<=d.kind/\d.kind<=5->∀x∈d.Um,x∈d.Uo∨(x∈d.Up/\x∈d.Uy)
 st:∀(n:Nat) s,d.UD[n]?=XK s->2<=s.kind/\s.kind<=5->∀x∈s.Um,x∈d.Uo∨(x∈d.Up/\(s.kind≠2->∃(k:Nat) (u:St),k<n/\d.UD[k]?=XK u/\u.kind=2/\AI u=x/\(u.til=0∨n<u.til)))
 ds:∀(n m:Nat) s u,d.UD[n]?=XK s->d.UD[m]?=XK u->s.kind=2->u.kind=2->n<m->(s.til=0∨m<s.til)->AI s≠AI u
 fl:∀(n:Nat) s,d.UD[n]?=XK s->s.kind=2->AI s∈d.Up
 til:∀(n:Nat) s,d.UD[n]?=XK s->s.til<=d.UD.length
 nest:∀(k h:Nat) u s,k<h->d.UD[k]?=XK u->d.UD[h]?=XK s->jl s.kind=XM->u.til≠0->h<u.til->s.til≠0/\s.til<=u.til
theorem Vr.empty:Vr bB:=by
 refine⟨?_,?_,rfl,?_,List.nodup_nil,rfl,?_,?_,?_,?_,?_,?_,?_,?_,?_,?_,?_⟩
 all_goals intros
 all_goals simp_all [bB]
theorem Vr.kd{a:Db}(V:Vr l)(f:a.Uo=l.Uo)(c:a.Up=l.Up)(i:a.Uv=l.Uv)(d:a.Uy=l.Uy)(g:a.blocks=l.blocks)(b:a.UD=l.UD)(e:a.rbl=l.rbl)(h:a.Um=[]):Vr a:=by
 refine⟨by rw[f,c];exact V.cv,by rw[i,c];exact V.av,by rw[d,b];exact V.typ,by rw[d,c];exact V.tv,by rw[d];exact V.nd,by rw[g,e];exact V.len,by rw[g,e,b,d];exact V.blk,by rw[e];exact V.ord,?_,?_,?_,?_,by rw[b,f,c];exact V.st,by rw[b];exact V.ds,by rw[b,c];exact V.fl,by rw[b];exact V.til,by rw[b];exact V.nest⟩
 all_goals (rw[h];intros;simp_all)
theorem xe:tm (H++o)=tm H++tm o:=by unfold tm;rw[Q0]
theorem DV:n∈tm k ↔ ∃(a:Nat) (u:St),k[a]?=XK u/\u.kind=2/\u.til=0/\AI u=n:=by
 unfold tm;rw[Rq];constructor
 ·rintro ⟨u,g,e⟩;obtain⟨a,b⟩:=Ss g;unfold pi at e;split at e
  ·next h=>exact⟨a,u,b,h.1,h.2,Qz e⟩
  ·cases e
 ·rintro ⟨a,u,b,c,d,f⟩;exact⟨u,Qp b,by unfold pi;rw[PZ ⟨c,d⟩,f]⟩
theorem LI(j:w<=H.length):tm (cH H w)=tm (H.take w):=by
 have c:(cH H w).length=H.length:=by unfold cH dK;rw[List.length_mapIdx]
 have e:cH H w=H.take w++(H.drop w).map (dE H.length):=by
  apply Q9;intro i;rw[fI,List.getElem?_append,QW,SD j];by_cases h:i<w
  ·rw[PZ h,Sz h];cases H[i]? with
   | none=>rfl
   | some s=>simp only[Option.map_some];rw[PV (by omega)]
  ·rw[PV h,Qt,Sh,show w+(i-w)=i by omega];cases g:H[i]? with
   | none=>rfl
   | some s =>
    have:=(Qc.1 g).1;simp only[Option.map_some];rw[PZ (by omega)]
 rw[e,xe];have:tm ((H.drop w).map (dE H.length))=[]:=by
  unfold tm;rw[List.filterMap_eq_nil_iff];intro s l;obtain⟨u,d,rfl⟩:=Qu.1 l;have k:H.length≠0:=fun f=>by
   have:H=[]:=Ql f;rw[this]at d;simp at d
  unfold pi;rw[PV];rintro ⟨b,a⟩;unfold dE at b a;split at a
  ·exact k a
  ·next h =>
   rw[PV h]at b;exact h ⟨a,by rw[b];rfl⟩
 rw[this,QK]
theorem kB{s:St}(h:(cH k b)[f]?=XK s):∃u,k[f]?=XK u/\s.kind=u.kind/\s.Um=u.Um/\s=(if b<=f/\f<k.length then dE k.length u else u)/\(s.til=u.til∨(u.til=0/\s.til=k.length/\b<=f)):=by
 rw[fI]at h;cases g:k[f]? with
 | none=>rw[g]at h;cases h
 | some u =>
  rw[g]at h;simp only[Option.map_some,Option.some.injEq]at h;refine⟨u,rfl,?_⟩;subst h;by_cases c:b<=f/\f<k.length
  ·rw[PZ c];unfold dE;split
   ·next a=>exact⟨rfl,rfl,rfl,P7 ⟨a.1,rfl,c.1⟩⟩
   ·exact⟨rfl,rfl,rfl,P0 rfl⟩
  ·rw[PV c];exact⟨rfl,rfl,rfl,P0 rfl⟩
theorem Dv:(cH H w).length=H.length:=by unfold cH dK;rw[List.length_mapIdx]
theorem Ih(h:w<=v):(cH H v).take w=H.take w:=by
 apply Q9;intro i;by_cases a:i<w
 ·rw[Sz a,Sz a,fI];cases H[i]? with
  | none=>rfl
  | some s=>simp only[Option.map_some];rw[PV (by omega)]
 ·rw[QP (by rw[QW];omega),QP (by rw[QW];omega)]
theorem Vr.close(V:Vr l){p:Nat×Nat}(I:l.blocks.getLast?=XK p)(h2:l.rbl.getLast?=XK b)(B:l.Um=[]):Vr { l with blocks:=l.blocks.dropLast,Uv:=l.Uv.take p.1,Uy:=l.Uy.take p.2,rbl:=l.rbl.dropLast,UD:=cH l.UD b }:=by
 have Z:=V.len;have b1:l.blocks[l.blocks.length-1]?=XK p:=by rw[<-Tz];exact I
 have T:l.rbl[l.blocks.length-1]?=XK b:=by rw[Z,<-Tz];exact h2
 obtain⟨q1,q2,q3⟩:=V.blk _ _ _ b1 T;have hn:0<l.blocks.length:=by
  cases g:l.blocks with
  | nil=>rw[g]at I;cases I
  | cons _ _=>simp
 have q:∀{u:St} {k:Nat},l.UD[k]?=XK u->k<l.UD.length:=fun h=>(Qc.1 h).1;refine⟨V.cv,fun x a=>V.av x (Sb a),?_,fun x a=>V.tv x (Sb a),V.nd.sublist (List.take_sublist _ _),by simp[Z],?_,?_,?_,?_,?_,?_,?_,?_,?_,?_,?_⟩
 ·show l.Uy.take p.2=tm (cH l.UD b);rw[LI _ _ q1,q3]
 ·intro i p' o f d;simp only at f d ⊢;have hi:i<l.blocks.length-1:=by
   have:=(Qc.1 f).1;simpa using this
  rw[Si,PZ hi]at f;rw[Si,PZ (by omega)]at d;obtain⟨r1,r2,r3⟩:=V.blk _ _ _ f d;have y:o<=b:=V.ord i _ o b (by omega) d T;rw[Dv,Ih _ _ _ y];have e:tm (l.UD.take b)=tm (l.UD.take o)++tm ((l.UD.take b).drop o):=by
   rw[<-xe];congr 1;have:=(RC o (l.UD.take b)).symm;rwa [Sp,SD y]at this
  have L:p'.2<=p.2:=by
   have l1:=congrArg List.length e;rw[q3,r3,Qa,QW,QW]at l1;omega
  refine⟨r1,by rw[QW];omega,?_⟩;rw[r3,Sp,SD L]
 ·intro i j o c J f d;simp only at f d;have hj:j<l.rbl.length-1:=by have:=(Qc.1 d).1;simpa using this
  rw[Si,PZ (by omega)]at f;rw[Si,PZ (by omega)]at d;exact V.ord i j o c J f d
 ·intro _ x a;simp only[B]at a;cases a
 ·intro _ x a;simp only[B]at a;cases a
 ·intro _ i x a;simp only[B]at a;cases a
 ·intro _ x a;simp only[B]at a;cases a
 ·intro n s g k x a;obtain⟨u,t,E,Q,-,-⟩:=kB g;rw[E]at k;rw[Q]at a;rcases V.st n u t k x a with h | ⟨h,hh⟩
  ·exact P0 h
  ·refine P7 ⟨h,fun D=>?_⟩;rw[E]at D;obtain⟨m,v,m1,m2,m3,m4,m5⟩:=hh D;have ac:=q m2;have:=q t;refine⟨m,if b<=m/\m<l.UD.length then dE l.UD.length v else v,m1,by simp only;rw[fI,m2];rfl,?_,?_,?_⟩
   ·split
    ·rw[(nD _ _).1];exact m3
    ·exact m3
   ·split
    ·unfold AI;rw[(nD _ _).2.2];exact m4
    ·exact m4
   ·split
    ·unfold dE;split
     ·right;show n<l.UD.length;omega
     ·exact m5
    ·exact m5
 ·intro n m s u f d k1 D M C;obtain⟨r,F,R,S,-,G⟩:=kB f;obtain⟨P,w,H,U,-,W⟩:=kB d
  have:=V.ds n m r P F w (by rw[<-R];exact k1) (by rw[<-H];exact D) M (by
   rcases G with e | ⟨e,X,-⟩
   ·rw[<-e];exact C
   ·exact P0 e)
  unfold AI at this ⊢;rw[S,U];exact this
 ·intro n s g k;obtain⟨u,t,E,Q,-,-⟩:=kB g;have:=V.fl n u t (by rw[<-E];exact k);unfold AI at this ⊢;rw[Q];exact this
 ·intro n s g;obtain⟨u,t,-,-,-,u5⟩:=kB g;simp only;rw[Dv];rcases u5 with e | ⟨-,e,-⟩
  ·rw[e];exact V.til n u t
  ·omega
 ·intro k h u s K f d ha Y C;obtain⟨P,F,R,S,a4,G⟩:=kB f;obtain⟨r,w,H,U,c4,W⟩:=kB d;have N:=q w;have sa:jl r.kind=XM:=by rw[<-H];exact ha
  rcases G with e | ⟨e,X,e3⟩
  ·rw[e]at Y C;obtain⟨n1,n2⟩:=V.nest k h P r K F w sa Y C;rcases W with g | ⟨g,-⟩
   ·rw[g,e];exact⟨n1,n2⟩
   ·exact absurd g n1
  ·have O:r.til<=l.UD.length:=V.til h r w;rw[c4,PZ ⟨by omega,N⟩,X];unfold dE;split
   ·exact⟨by show l.UD.length≠0;omega,PQ _⟩
   ·next hc=>exact⟨fun z=>hc ⟨z,sa⟩,O⟩
end Go.Proofs.YtnbalopedcgpcaaGreat
