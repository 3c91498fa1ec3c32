import Derived.Test.YtnbhnocdhbcbcaaGreatU10
namespace Go.Proofs.YtnbhnocdhbcbcaaGreat
open Go.RowKit Tryz
open Value IntKind Ending
set_option maxHeartbeats 0
variable{T m:World}{S I o:Nat}{d:Nat->Hd}{n:List St}{a zt:List Rw}(N D f:Nat)(b:List St)(y0:Nat->Hd)(z4:Xt)(z5:List Bool)(l:Nat)(L:List Rw)(t:Hd)(g:Nat->Hd)(s:Pl)(z7:Xt)(H:List jg)(x:List Rw)(y:World)(z6:List Xt×List Xt)(M w:Nat)
def jd(l:List St)(vs:Xt)(ms:List Bool)(S:List Xt×List Xt)(s:jg):Int×List Xt×List Xt :=
 if((fS l vs ms S.1 S.2 s).1.1==0)=true then
  (if(fS l vs ms S.1 S.2 s).1.2.length<=32 then(0,S.1++[(fS l vs ms S.1 S.2 s).1.2],(fS l vs ms S.1 S.2 s).2++[(fS l vs ms S.1 S.2 s).1.2]) else(10,S))
 else((fS l vs ms S.1 S.2 s).1.1,S)
theorem nJ.turned{k:World}{g n j:Nat}{r s a b:List Ex}{f:Nat->Hd}(h:nJ T m S I o g n j r s d)(t:aw S m d k f)(i:bn k S 307 (pW I o g n j a b f) (uA a b) f)(l:∀e∈a,sF m S d e.hd e.xs/\e.xs.length<=32)(p:∀e∈b,sF m S d e.hd e.xs/\e.xs.length<=32):nJ T k S I o g n j a b f:=by
 refine⟨⟨i,fun e c=>⟨(l e c).1.turned t,(l e c).2⟩,fun e c=>⟨(p e c).1.turned t,(p e c).2⟩⟩,h.Yu.ofP t.1 ?_,h.hb,fun x q=>?_⟩
 ·rintro x (e | e)
  ·have:=h.hb;omega
  ·exact h.hin x e
 ·rcases t.2 x q with e | e
  ·exact h.hin x e
  ·exact Un h.Yu.size e
set_option maxRecDepth 100000
theorem NU(w:World)(b T U g V:Nat)(s:jg)(l:List St)(HR K:Nat->Hd)(A:Xt)(z:List Bool)(hv hm:Hd)(a r:List Ex)(H:Nat->Hd)(E:Fl y T U g V l HR K A z hv hm)(P:nJ y w b T U g l.length V a r H)(hn:(s.Yw==3)=false->s.Yd<l.length)(aT:s.Yd<=2000000)(a0:r.length<=2000000)(a3:a.length<=2000000) :
  Calls prog 211 #[pointer (some ⟨b,0,none⟩),agg #[int i64 s.Yw,int i64 s.Yd,string s.at_.YB,int i64 s.at_.YC,int i64 s.at_.YD]] w fun e w'=>∃(R S:List Ex) (H':Nat->Hd),
   e=returned (int i64 (jd l A z (a.map Ex.xs,r.map Ex.xs) s).1)/\nJ y w' b T U g l.length V R S H' /\
   (((jd l A z (a.map Ex.xs,r.map Ex.xs) s).1==0)=true->(R.map Ex.xs,S.map Ex.xs)=(jd l A z (a.map Ex.xs,r.map Ex.xs) s).2)/\S.length<=r.length+1/\R.length<=a.length+1:=by
 obtain⟨i1,ac,al,an,ap⟩:=UC Nu;obtain⟨W,hW⟩:∃W,W=w.alloc (.cells #[int i64 s.Yw,int i64 s.Yd,string s.at_.YB,int i64 s.at_.YC,int i64 s.at_.YD] 174):=⟨_,rfl⟩
 have kW:=fg hW.symm;have B:=fE hW.symm;have HW:Xr _:=hW.symm;obtain⟨u0,u1,u2,u3,u4⟩:=lr B;have PW:=P.Yh kW;have SH:=On y W b T U g V s l HR K A z hv hm a r H E PW hn aT a0;have Z:Xr (∀q,fS l A z (a.map Ex.xs) (r.map Ex.xs) s=q->jd l A z (a.map Ex.xs,r.map Ex.xs) s=if(q.1.1==0)=true then(if q.1.2.length<=32 then(0,a.map Ex.xs++[q.1.2],q.2++[q.1.2]) else(10,a.map Ex.xs,r.map Ex.xs)) else(q.1.1,a.map Ex.xs,r.map Ex.xs)):=by
  intro q C;subst C;rfl
 have t:Xr _:=Z.o _ rfl;generalize fS l A z (a.map Ex.xs) (r.map Ex.xs) s=Q at *;obtain⟨⟨q,xs⟩,t2⟩:=Q;simp only at SH t;clear hW Z B;go_enter func211,ntmps211;go_upto_region 1 with fail
 rw[HW.o];go_wp2_with fail;refine SH.mono ?_;rintro e w2 ⟨d,c,rfl,a1,L,F2,ad,a2⟩;subst a1;cases C:(q==0)
 ·have az:(q != 0)=true:=by simp[bne,C]
  have D:Xr (jd l A z (a.map Ex.xs,r.map Ex.xs) s=(q,a.map Ex.xs,r.map Ex.xs)):=cM (by rw[t.o,C];rfl);clear t SH u0 u1 u2 u3 u4;go_wp2;go_ret;exact⟨a,d,H,T0 (by rw[D.o]),L,fun hh=>by rw[D.o]at hh;exact absurd (C.symm.trans hh) (by simp),by omega,by omega⟩
 ·have az:(q != 0)=false:=by simp[bne,C]
  by_cases x:c.xs.length<=32
  ·have ax:¬((c.xs.length:Int) > 32):=(by omega);have D:Xr (jd l A z (a.map Ex.xs,r.map Ex.xs) s=(0,a.map Ex.xs++[c.xs],t2++[c.xs])):=cM (by rw[t.o,C,Uf rfl,Uf x]);have ar:Xr _:=ad C;clear t SH u0 u1 u2 u3 u4 ad;(go_upto_region 6 with fail);have D2:=L.ply.bag;have p3:=L.ply.cells.1;have N:=D2.Yh ((ae.refl [] w2).alloc (.cells #[slice c.hd.ao c.xs.length c.hd.cap] 61));have aS:Xr (∀j,j≠0->uA (a++[c]) d j=uA a d j):=by
    intro j p
    match j,p with
    | 0,p=>exact absurd rfl p
    | 1,_=>rfl
    | m+2,_=>rfl
   have af:Xr (∀j,j≠1->uA (a++[c]) (d++[c]) j=uA (a++[c]) d j):=by
    intro j p
    match j,p with
    | 0,_=>rfl
    | 1,p=>exact absurd rfl p
    | m+2,_=>rfl
   go_wp2_with (at_builtin;refine aN _ rfl (.tmp 23) (.tmp 25) 218 rfl i1 (slice none 0 0) 24 (H 0) (im a) underlying218 ac al an ap rfl UA rfl (by exact N.YF 0) ⟨_,0,none⟩ 1 1 [slice c.hd.ao c.xs.length c.hd.cap] rfl rfl ?e1 ?e2 UA ?e3 ?e4 ?_)
   case e1=>intro j u p;match j,p with | 0,p=>simp at p;subst p;simp[Addr.add]
   case e2=>intro u hu;simp at hu;subst hu;rfl
   case e3=>simp only[im];unfold maxLen;omega
   case e4=>simp only[im];omega
   intro M f w4 ag G i;obtain⟨k4,f4,J⟩:=N.app (cs':=pW T U g l.length V (a++[c]) d (ie H 0 ⟨some ⟨M,0,none⟩,f⟩)) (rows':=uA (a++[c]) d) 3 0 M f ((im a).n+1) _ ag (vB a c) G (by simpa using i) aS.o (slice (H 0).ao a.length (H 0).cap) rfl (by simp[pW,ie,im]);clear ag G i N p3;(go_upto_region 7 with fail);generalize hX:w4.setCell ⟨b,3,none⟩ (slice (some ⟨M,0,none⟩) ((im a).n+1) f)=X at J ⊢;have DX:=J.o.1;have TX:Xr _:=J.o.2.first (bM.alloc _);have p4:=DX.cell 4;simp only[pW,List.getElem?_cons_succ,List.getElem?_cons_zero]at p4;have O:=DX.Yh ((ae.refl [] X).alloc (.cells #[slice c.hd.ao c.xs.length c.hd.cap] 61));clear hX k4 f4;go_wp2_with (at_builtin;refine aN _ rfl (.tmp 33) (.tmp 35) 218 rfl i1 (slice none 0 0) 24 (ie H 0 ⟨some ⟨M,0,none⟩,f⟩ 1) (im d) underlying218 ac al an ap rfl UA rfl (by exact O.YF 1) ⟨_,0,none⟩ 1 1 [slice c.hd.ao c.xs.length c.hd.cap] rfl rfl ?e1 ?e2 UA ?e3 ?e4 ?_)
   case e1=>intro j u p;match j,p with | 0,p=>simp at p;subst p;simp[Addr.add]
   case e2=>intro u hu;simp at hu;subst hu;rfl
   case e3=>simp only[im];unfold maxLen;omega
   case e4=>simp only[im];omega
   intro g6 F w6 ai I k;obtain⟨k6,f6,Y⟩:=O.app (cs':=pW T U g l.length V (a++[c]) (d++[c]) (ie (ie H 0 ⟨some ⟨M,0,none⟩,f⟩) 1 ⟨some ⟨g6,0,none⟩,F⟩)) (rows':=uA (a++[c]) (d++[c])) 4 1 g6 F ((im d).n+1) _ ai (vB d c) I (by simpa using k) af.o (slice (ie H 0 ⟨some ⟨M,0,none⟩,f⟩ 1).ao d.length (ie H 0 ⟨some ⟨M,0,none⟩,f⟩ 1).cap) rfl (by simp[pW,ie,im]);have T6:Xr _:=aw.trans TX.o (Y.o.2.first (bM.alloc _));clear ai I k O p4;go_wp2;go_ret;refine⟨a++[c],d++[c],_,T0 (by rw[D.o]),L.turned T6.o Y.o.1 (fun e v=>?_) (fun e v=>?_),fun _=>by rw[D.o];simp[ar.o],by simp;omega,by simp⟩
   ·rw[UG]at v;rcases v with v | v
    ·exact L.ply.shs e v
    ·simp at v;subst v;exact⟨F2,x⟩
   ·rw[UG]at v;rcases v with v | v
    ·exact L.ply.ths e v
    ·simp at v;subst v;exact⟨F2,x⟩
  ·have ax:(c.xs.length:Int) > 32:=(by omega);have D:Xr (jd l A z (a.map Ex.xs,r.map Ex.xs) s=(10,a.map Ex.xs,r.map Ex.xs)):=cM (by rw[t.o,C,Uf rfl,Ud x]);clear t SH u0 u1 u2 u3 u4;go_wp2;go_ret;exact⟨a,d,H,T0 (by rw[D.o]),L,by rw[D.o];simp,by omega,by omega⟩
def Ar(YA:Pl)(goal:Xt)(th:List Xt):pJ :=
 match th with
 | []=>(12,YA)
 | [x]=>if zG x goal=true then dh else(12,YA)
 | _ :: _ :: _=>(11,YA)
def jC(l:List St)(vs:Xt)(ms:List Bool)(YA:Pl)(goal:Xt):List jg->List Xt×List Xt->pJ
 | [],S=>Ar YA goal S.2
 | s :: r,S=>if((jd l vs ms S s).1==0)=true then jC l vs ms YA goal r (jd l vs ms S s).2 else((jd l vs ms S s).1,s.at_)
def eF(l:List St)(a:Nat)(s:St)(steps:List jg):pJ:=jC l (rV l a) (gI l a (rV l a)) s.YA s.Yc steps ([],[])
theorem yD(a:w<H.length) :
  jC b z4 z5 s z7 (H.drop w) z6=if((jd b z4 z5 z6 H[w]).1==0)=true then jC b z4 z5 s z7 (H.drop (w+1)) (jd b z4 z5 z6 H[w]).2 else((jd b z4 z5 z6 H[w]).1,H[w].at_):=by
 rw[UB a];rfl
theorem Eg(a:¬w<H.length) :
  jC b z4 z5 s z7 (H.drop w) z6=Ar s z7 z6.2:=by
 rw[Vm (by omega)];rfl
theorem LI(l:List jg)(k:Nat)(a:k<l.length)(j:Nat)(d:j<5):(za l)[k*5+j]?=(lV l[k])[j]?:=by
 induction l generalizing k with
 | nil=>simp at a
 | cons s r c =>
  have e:za (s :: r)=lV s++za r:=rfl;rw[e];cases k with
  | zero=>rw[Uv (by simp[lV];omega)];simp
  | succ k =>
   rw[Ur (by simp[lV];omega)];have b:(k+1)*5+j-(lV s).length=k*5+j:=by simp[lV];omega
   rw[b,c k (by simpa using a)];rfl
theorem aB.step{h:Hd}{l:List jg}(o:aB T h (gJ l))(k:Nat)(m:k<l.length) :
  ∃g,h.ao=some ⟨g,0,none⟩/\l.length<=h.cap/\h.cap<=9223372036854775807/\T.cell? ⟨g,k*5,none⟩=some (int i64 l[k].Yw)/\T.cell? ⟨g,k*5+1,none⟩=some (int i64 l[k].Yd)/\T.cell? ⟨g,k*5+2,none⟩=some (string l[k].at_.YB)/\T.cell? ⟨g,k*5+3,none⟩=some (int i64 l[k].at_.YC)/\T.cell? ⟨g,k*5+4,none⟩=some (int i64 l[k].at_.YD):=by
 rcases o.Ys with ⟨_,f,_⟩ | ⟨g,d,a,p,e,b,-⟩
 ·have:l.length=0:=f;omega
 ·have c:=fun j (i:j<5) v (n:(lV l[k])[j]?=some v)=>o.cell a (k*5+j) v ((LI l k m j i).trans n);exact⟨g,a,e,by unfold maxLen at b;exact b,c 0 (by omega) _ rfl,c 1 (by omega) _ rfl,c 2 (by omega) _ rfl,c 3 (by omega) _ rfl,c 4 (by omega) _ rfl⟩
structure Ir(l:List St)(steps:List jg):Prop where
 len:steps.length<=1100000
 num:∀s∈steps,s.Yd<=2000000
 named:∀s∈steps,(s.Yw==3)=false->s.Yd<l.length
theorem Mm(b:List St)(d K:Nat->Hd)(p:Hd)(a:List jg)(C:World)(hr:fy C f l b d)(ok:j6 b)(ha:w<b.length)(an:iJ C M b b.length K)(hO:aB C p (gJ a))(S:Ir b a) :
  Calls prog 163 #[pointer (some ⟨f,l,none⟩),int i64 w,slice (some ⟨M,0,none⟩) b.length b.length,slice p.ao a.length p.cap] C fun e c =>
   e=returned (iz (eF b w b[w] a))/\ae [] C c:=by
 have a4:=ok.len;have bg:=S.len;have bo:=ok.syms w ha;obtain⟨AO,ad⟩:=bm (p.ao);rw[ad.o];obtain⟨W,hW⟩:∃W,W=C.alloc (.cells #[int i64 0,string ⟨#[]⟩,int i64 0,int i64 0] 165):=⟨_,rfl⟩
 have kW:=fg hW.symm;have BF:W.heap[C.heap.size]?=some (.cells bH 165):=by rw[hW];exact Ui _ _
 have HW:Xr _:=hW.symm;have bl:(rV b w).length<=b.length:=C1 b w b.length;clear hW;go_enter func163,ntmps163;go_upto_region 1 with fail
 rw[HW.o];go_upto_region 2 with (go_at_call 209;refine(rU f l w b d _ (by exact hr.Yh kW) ok).mono ?_;rintro e w2 ⟨a1,rfl,aT,a7,k2⟩)
 have K2:=kW.trans k2;go_wp2_with (go_at_call 210;refine(MA f l w b d a1 (rV b w) _ (by exact hr.Yh K2) ok (by exact aT) (by omega)).mono ?_;rintro e s ⟨tb,hv,hm,rfl,A3,bj,be,k3⟩);have K3:=K2.trans k3;have ac:=(k2.trans k3).get BF (by simp);have E:Fl s f l M tb b d K (rV b w) (gI b w (rV b w)) hv hm:=⟨hr.Yh K3,ok,an.Yh K3,A3,mK _ _ _ _,by omega⟩;have J:aB s p (gJ a):=hO.Ym (fun x T=>K3.block x (hO.lt T) (by simp));have P4:nJ s (s.alloc (.cells #[pointer (some ⟨f,l,none⟩),slice (some ⟨M,0,none⟩) b.length b.length,pointer (some ⟨tb,0,none⟩),slice none 0 0,slice none 0 0] 307)) s.heap.size f l M b.length tb [] [] lB:=by
  refine⟨⟨⟨Ui _ _,?_,fun i j _=>Us rfl,fun i e=>by simp[lB,Hd.Yv]at e⟩,by simp,by simp⟩,bM.alloc _,Ue _,fun x T=>by obtain⟨i,hi⟩:=T;simp[lB,Hd.Yv]at hi⟩;intro i
  match i with
  | 0=>exact Uj _ _ _ _
  | 1=>exact Uj _ _ _ _
  | m+2=>exact Uj _ _ _ _
 go_loopg [11] a.length (fun gk iv wr=>∃(i:Nat) (N r:List Ex) (H:Nat->Hd),i<=a.length/\gk=a.length-i/\iv=int i64 i/\N.length<=i/\r.length<=i/\Xr (eF b w b[w] a=jC b (rV b w) (gI b w (rV b w)) b[w].YA b[w].Yc (a.drop i) (N.map Ex.xs,r.map Ex.xs))/\nJ s wr s.heap.size f l M b.length tb N r H)
 ·exact⟨0,[],[],lB,by omega,by omega,rfl,by simp,by simp,rfl,P4⟩
 obtain⟨i,N,r,H,hi,hg,rfl,bf,bk,hR,P⟩:=hrel;clear P4;have B:=P.Yu.get ac (by simp);obtain⟨t,u,z,A⟩:=dC B;have O:=am B;have KW:=K3.trans P.Yu;by_cases n:i<a.length
 ·have ai:aB wr p (gJ a):=J.Ym (fun x T=>P.Yu.block x (J.lt T) (by simp));obtain⟨gp,ep,a3,aS,d0,d1,d2,d3,d4⟩:=ai.step i n;obtain rfl:AO=some ⟨gp,0,none⟩:=ad.o.symm.trans ep;have h1:=S.num a[i] (Uu n);have h2:=S.named a[i] (Uu n);have g:Xr _:=hR.o.trans (yD b (rV b w) (gI b w (rV b w)) b[w].YA b[w].Yc a (N.map Ex.xs,r.map Ex.xs) i n);have PA:=NU s wr s.heap.size f l M tb a[i] b d K (rV b w) (gI b w (rV b w)) hv hm N r H E P h2 h1 (by omega) (by omega);have af:Xr (∀c,ae [] s c->c.cell? ⟨gp,i*5+2,none⟩=some (string a[i].at_.YB)/\c.cell? ⟨gp,i*5+3,none⟩=some (int i64 a[i].at_.YC)/\c.cell? ⟨gp,i*5+4,none⟩=some (int i64 a[i].at_.YD)):=by
   intro c k;obtain⟨a6,ag,-,-,-,-,q2,q3,q4⟩:=(J.Ym (w':=c) (fun x T=>k.block x (J.lt T) (by simp))).step i n;rw[ep]at ag;cases ag
   exact⟨q2,q3,q4⟩
  clear hR ep ai;generalize a[i]=st at *;obtain⟨sk,sn,V,Y,U⟩:=st;simp only at d0 d1 d2 d3 d4 PA af g;generalize jd b (rV b w) (gI b w (rV b w)) (N.map Ex.xs,r.map Ex.xs) ⟨sk,sn,⟨V,Y,U⟩⟩=Q at *;obtain⟨q,Q2⟩:=Q;simp only at PA g;cases hq:(q==0)
  ·have a0:(q != 0)=true:=(by simp[bne,hq]);have D:Xr (eF b w b[w] a=(q,⟨V,Y,U⟩)):=cM (by rw[g.o,Ud (by rw[hq];simp)]);clear g;(go_upto_region 8 with (go_at_call 211;refine PA.mono ?_;rintro e Z ⟨ar,ax,H5,rfl,P5,al,-,-⟩));obtain⟨c2,c3,c4⟩:=af.o Z P5.Yu;have R:=P5.Yu.get ac (by simp);clear t u z A O d0 d1 d2 d3 d4;obtain⟨t,u,z,A⟩:=dC R;have O:=am R;have K5:=K3.trans P5.Yu;go_wp2;exact Um (v:=agg #[int i64 q,string V,int i64 Y,int i64 U]) (by simp[results,results163,go_sem,t,u,z,A]) rfl
    ⟨by rw[D.o];rfl,lS (F:=C.heap.size) K5 (Ue _) _ _ _ _⟩
  ·have a0:(q != 0)=false:=(by simp[bne,hq]);have D:Xr (eF b w b[w] a=jC b (rV b w) (gI b w (rV b w)) b[w].YA b[w].Yc (a.drop (i+1)) Q2):=cM (by rw[g.o,Uf hq]);clear g;go_wp2_with (go_at_call 211;refine PA.mono ?_;rintro e Z ⟨ar,ax,H5,rfl,P5,al,bc,bd⟩);go_roundg (a.length-(i+1))
   ·exact⟨i+1,ar,ax,H5,by omega,rfl,by go_num,by omega,by omega,by show _=_;rw[al hq];exact D.o,P5⟩
   omega
 ·have HE:Xr _:=hR.o.trans (Eg b (rV b w) (gI b w (rV b w)) b[w].YA b[w].Yc a (N.map Ex.xs,r.map Ex.xs) i n);have Er:=E.Yh P.Yu;clear hR;go_upto_region 10 with (go_at_call 98;refine(bC f l w b d _ (by exact Er.recd) ha).mono ?_;rintro e Z ⟨rfl,k5⟩;unfold eW)
  obtain⟨X,hX⟩:∃X,X=Z.alloc (.cells #[int i64 b[w].Yw,string b[w].Yx,slice (d (10+2*w)).ao b[w].Yc.length (d (10+2*w)).cap,slice (d (11+2*w)).ao b[w].Yn.length (d (11+2*w)).cap,string b[w].YA.YB,int i64 b[w].YA.YC,int i64 b[w].YA.YD,int i64 b[w].til] 158):=⟨_,rfl⟩
  have kX:ae [] wr X:=by rw[hX];exact k5.alloc _
  have BX:=fE hX.symm;rw[<-hX];have PX:=P.Yh kX;have R:=kX.get B (by simp);clear hX t u z A O;obtain⟨t,u,z,A⟩:=dC R;have O:=am R;have KX:=KW.trans kX;obtain⟨-,-,m2,-,m4,m5,m6,-⟩:=zE BX;have p4:=PX.ply.cells.2;rcases r with _ | ⟨x,r⟩
  ·have D:Xr (eF b w b[w] a=(12,b[w].YA)):=HE.o;simp only[List.length_nil]at p4;clear HE;(go_upto_region 12 with fail);go_quiet (fail);go_wp2;exact Um (v:=agg #[int i64 12,string b[w].YA.YB,int i64 b[w].YA.YC,int i64 b[w].YA.YD]) (by simp[results,results163,go_sem,t,u,z,A]) rfl
    ⟨by rw[D.o];rfl,lS (F:=C.heap.size) (KX.drewN _) (Ue _) _ _ _ _⟩
  ·rcases r with _ | ⟨y,r⟩
   ·have hE:eF b w b[w] a=if zG x.xs b[w].Yc=true then dh else(12,b[w].YA):=HE.o;have G:Xr _:=hE;have oT:aB X (H 1) (im [x]):=PX.ply.bag.YF 1;rcases oT.Ys with ⟨_,h0,_⟩ | ⟨gt,a2,et,-,a5,-⟩
    ·simp[im]at h0
    have ct:=oT.cell et 0 (xK x) rfl;unfold xK at ct;rw[et]at p4;simp only[List.length_cons,List.length_nil]at p4;have ap:=(PX.ply.ths x (by simp));have I:Xr _:=fun(c:World) (k:ae [] X c)=>Ae x.hd (d (10+2*w)) x.xs b[w].Yc c (ap.1.view.Yh k) (((Er.Yh (kX.trans k)).recd.Yt.syms w b[w] (Ub ha)).view) (by omega) (by omega);have HC:Xr (∀c,ae [] X c->c.cell? ⟨s.heap.size,4,none⟩=some (slice (some ⟨gt,0,none⟩) 1 (H 1).cap)/\c.cell? ⟨gt,0,none⟩=some (slice x.hd.ao x.xs.length x.hd.cap)/\c.cell? ⟨Z.heap.size,2,none⟩=some (slice (d (10+2*w)).ao b[w].Yc.length (d (10+2*w)).cap)):=by
     intro c k;refine⟨?_,((PX.Yh k).ply.bag.YF 1).cell et 0 (xK x) rfl,?_⟩
     ·rw[<-et];exact(PX.Yh k).ply.cells.2
     ·rw[ah (k.get BX (by simp))];rfl
    clear hE HE et oT;(go_upto_region 12 with fail);cases L:zG x.xs b[w].Yc
    ·have D:Xr (eF b w b[w] a=(12,b[w].YA)):=(by show _=_;rw[G.o,L];rfl);rw[L]at I;clear G;go_region_held3 (fun c=>c.cell? ⟨s.heap.size,4,none⟩=some (slice (some ⟨gt,0,none⟩) 1 (H 1).cap)/\c.cell? ⟨gt,0,none⟩=some (slice x.hd.ao x.xs.length x.hd.cap)/\c.cell? ⟨Z.heap.size,2,none⟩=some (slice (d (10+2*w)).ao b[w].Yc.length (d (10+2*w)).cap)) (go_keep) (first | (go_at_call 212;refine(I.o _ (by exact(ae.refl [] X).drew)).mono ?_;rintro e w6 ⟨rfl,k6⟩;obtain⟨x0,x1,x2⟩:=HC.o w6 ((ae.refl [] X).drew.trans k6)))
     all_goals
      have kk:=((ae.refl [] X).drew.trans k6);have az:=kk.get BX (by simp);have B6:=kk.get R (by simp);clear t u z A O m2 m4 m5 m6 p4 ct;obtain⟨t,u,z,A⟩:=dC B6;have O:=am B6;obtain⟨-,-,-,-,m4,m5,m6,-⟩:=zE az;go_wp2;exact Um (v:=agg #[int i64 12,string b[w].YA.YB,int i64 b[w].YA.YC,int i64 b[w].YA.YD]) (by simp[results,results163,go_sem,t,u,z,A]) rfl ⟨by rw[D.o];rfl,lS (F:=C.heap.size) (KX.trans kk) (Ue _) _ _ _ _⟩
    ·have D:Xr (eF b w b[w] a=dh):=(by show _=_;rw[G.o,L];rfl);rw[L]at I;clear G;go_region_held3 (fun c=>c.cell? ⟨s.heap.size,4,none⟩=some (slice (some ⟨gt,0,none⟩) 1 (H 1).cap)/\c.cell? ⟨gt,0,none⟩=some (slice x.hd.ao x.xs.length x.hd.cap)/\c.cell? ⟨Z.heap.size,2,none⟩=some (slice (d (10+2*w)).ao b[w].Yc.length (d (10+2*w)).cap)) (go_keep) (first | (go_at_call 212;refine(I.o _ (by exact(ae.refl [] X).drew)).mono ?_;rintro e w6 ⟨rfl,k6⟩;obtain⟨x0,x1,x2⟩:=HC.o w6 ((ae.refl [] X).drew.trans k6)))
     all_goals
      have kk:=((ae.refl [] X).drew.trans k6);have B6:=kk.get R (by simp);clear t u z A O m2 m4 m5 m6 p4 ct;obtain⟨t,u,z,A⟩:=dC B6;have O:=am B6;go_wp2;exact Um (v:=agg #[int i64 0,string ⟨#[]⟩,int i64 0,int i64 0]) (by simp[results,results163,go_sem,t,u,z,A]) rfl ⟨by rw[D.o];rfl,lS (F:=C.heap.size) (KX.trans kk) (Ue _) _ _ _ _⟩
   ·have D:Xr (eF b w b[w] a=(11,b[w].YA)):=HE.o;have ba:((r.length:Int)+1+1 > 1):=(by omega);simp only[List.length_cons]at p4;clear HE;go_wp2;exact Um (v:=agg #[int i64 11,string b[w].YA.YB,int i64 b[w].YA.YC,int i64 b[w].YA.YD]) (by simp[results,results163,go_sem,t,u,z,A]) rfl
     ⟨by rw[D.o];rfl,lS (F:=C.heap.size) KX (Ue _) _ _ _ _⟩
structure kp(w:World)(b o:Nat)(l:List St)(H:Nat->Hd)(g:Nat)(L:List Rw):Prop where
 recd:fy w b o l H
 cell:∃arr t,w.heap[b]?=some (.cells arr t)/\arr[o+2]?=some (slice (some ⟨g,0,none⟩) L.length L.length)
 arr:w.heap[g]?=some (.cells (lP L).toArray 38)
theorem kp.Yh(h:kp T S I n d o a)(k:ae [] T m):kp m S I n d o a:=by
 obtain⟨b,t,c,e⟩:=h.cell;exact⟨h.recd.Yh k,⟨b,t,k.get c (by simp),e⟩,k.get h.arr (by simp)⟩
theorem kp.at2(h:kp T S I n d o a):T.cell? ⟨S,I+2,none⟩=some (slice (some ⟨o,0,none⟩) a.length a.length):=by
 obtain⟨b,t,c,e⟩:=h.cell;rw[ah c];exact e
theorem kp.row(h:kp T S I n d o a)(k:Nat)(e:k<a.length) :
  T.cell? ⟨o,k*6,none⟩=some (string a[k].Yx)/\T.cell? ⟨o,k*6+1,none⟩=some (int i64 a[k].Yi)/\T.cell? ⟨o,k*6+2,none⟩=some (int i64 a[k].why)/\T.cell? ⟨o,k*6+3,none⟩=some (string a[k].at_.YB)/\T.cell? ⟨o,k*6+4,none⟩=some (int i64 a[k].at_.YC)/\T.cell? ⟨o,k*6+5,none⟩=some (int i64 a[k].at_.YD):=by
 have c:=fun j (b:j<6) v (f:(ob a[k])[j]?=some v)=>(ah h.arr (k*6+j)).trans ((by simp only[List.getElem?_toArray];exact(Jj a k e j b).trans f));exact⟨c 0 (by omega) _ rfl,c 1 (by omega) _ rfl,c 2 (by omega) _ rfl,c 3 (by omega) _ rfl,c 4 (by omega) _ rfl,c 5 (by omega) _ rfl⟩
def mn(L:List Rw)(n:Nat):Int:=(L.getD n qy).Yi
set_option maxRecDepth 512
theorem wA(h:kp y N D b y0 l x) :
  Calls prog 96 #[pointer (some ⟨N,D,none⟩),int i64 f] y fun e g=>e=returned (int i64 (mn x f))/\g=y:=by
 have i:=h.at2;by_cases a:f<x.length
 ·have d:Xr (mn x f=x[f].Yi):=by show _=_;unfold mn;rw[Uc,Ub a];rfl
  obtain⟨-,j,-,-,-,-⟩:=h.row f a;have c:¬((f:Int) ≥ x.length):=by omega
  go_enter func96,ntmps96;go_wp2;go_ret;exact⟨T0 (by rw[d.o]),rfl⟩
 ·have d:Xr (mn x f=0):=by show _=_;unfold mn;rw[Uc,UT (by omega)];rfl
  have c:(f:Int) ≥ x.length:=by omega
  go_enter func96,ntmps96;go_wp2;go_ret;exact⟨T0 (by rw[d.o]),rfl⟩
def pD(steps:List jg):Option Nat:=(List.range steps.length).find? (fun i=>match steps[i]? with | some s=>s.Yw==1 | none=>false)
theorem vg(v:aB y t (gJ H))(C:H.length<=1073741824) :
  Calls prog 162 #[slice t.ao H.length t.cap] y fun e x=>e=returned (int i64 (oM (pD H)))/\x=y:=by
 obtain⟨q,c⟩:=bm (t.ao);rw[c.o];go_enter func162,ntmps162;go_wp2
 go_loopg [3] H.length (fun g i wr=>∃k:Nat,k<=H.length/\g=H.length-k/\i=int i64 k/\Xr (∀i,i<k->(match H[i]? with | some s=>s.Yw==1 | none=>false)=false)/\wr=y)
 ·exact⟨0,by omega,by omega,rfl,fun i p=>by omega,rfl⟩
 obtain⟨k,B,A,rfl,a,rfl⟩:=hrel;by_cases b:k<H.length
 ·obtain⟨u,m,l,j,z,-⟩:=v.step k b;obtain rfl:q=some ⟨u,0,none⟩:=c.o.symm.trans m;clear m;have d:Xr (H[k]?=some H[k]):=Ub b;generalize H[k]=w at *;cases n:(w.Yw==1)
  ·have r:Xr (∀i,i<k+1->(match H[i]? with | some s=>s.Yw==1 | none=>false)=false):=by
    intro i p;by_cases e:i=k
    ·subst e;rw[d.o];exact n
    ·exact a.o i (by omega)
   clear d a;go_wp2;go_roundg (H.length-(k+1))
   ·exact⟨k+1,by omega,rfl,by go_num,r,rfl⟩
   omega
  ·have f:Xr (pD H=some k):=po b (by rw[d.o];exact n) a.o;clear d a;go_wp2;go_ret;exact⟨T0 (by rw[f.o];rfl),rfl⟩
 ·have f:Xr (pD H=none):=nY (fun i p=>a.o i (by omega));clear a;go_wp2;go_ret;exact⟨T0 (by rw[f.o];rfl),rfl⟩
def xq(v:Int):Bool:=v==2||v==3||v==4
def nc(L:List Rw)(steps:List jg):Bool:=steps.all (fun s=>!(s.Yw==2) || !(xq (mn L s.Yd)))
theorem QD(c:w<H.length)(a:(H[w].Yw==2)=true)(b:xq (mn L H[w].Yd)=true):nc L H=false:=by
 cases e:nc L H
 ·rfl
 ·unfold nc at e;rw[U5]at e;have:=e _ (Uu c);rw[a,b]at this;cases this
theorem Od(h:∀k (a:k<H.length),(!(H[k].Yw==2) || !(xq (mn L H[k].Yd)))=true):nc L H=true:=by
 unfold nc;rw[U5];intro x b;obtain⟨k,a,rfl⟩:=U7 b;exact h k a
theorem Oc(h:kp y D f b y0 l L)(M:aB y t (gJ H))(N:H.length<=1100000) :
  Calls prog 164 #[pointer (some ⟨D,f,none⟩),slice t.ao H.length t.cap] y fun e O=>e=returned (bool (nc L H))/\O=y:=by
 obtain⟨G,p⟩:=bm (t.ao);rw[p.o];go_enter func164,ntmps164;go_wp2
 go_loopg [5] H.length (fun l i wr=>∃k:Nat,k<=H.length/\l=H.length-k/\i=int i64 k/\Xr (∀i (o:i<H.length),i<k->(!(H[i].Yw==2) || !(xq (mn L H[i].Yd)))=true)/\wr=y)
 ·exact⟨0,by omega,by omega,rfl,fun i _ o=>by omega,rfl⟩
 obtain⟨k,S,R,rfl,g,rfl⟩:=hrel;by_cases r:k<H.length
 ·obtain⟨I,E,C,x,P,Q,-⟩:=M.step k r;obtain rfl:G=some ⟨I,0,none⟩:=p.o.symm.trans E;clear E;have c:Xr ((!(H[k].Yw==2) || !(xq (mn L H[k].Yd)))=true->∀i (o:i<H.length),i<k+1->(!(H[i].Yw==2) || !(xq (mn L H[i].Yd)))=true):=by
   intro J i o K;by_cases e:i=k
   ·subst e;exact J
   ·exact g.o i o (by omega)
  have a:Xr _:=QD L H k r;have q:=wA D f H[k].Yd b y0 l L wr h;clear g;generalize H[k]=u at *;cases n:(u.Yw==2)
  ·have A:(u.Yw != 2)=true:=(by simp[bne,n]);have w:Xr _:=(c.o (by rw[n];rfl));clear c a q;go_wp2;go_roundg (H.length-(k+1))
   ·exact⟨k+1,by omega,rfl,by go_num,w.o,rfl⟩
   omega
  ·have A:(u.Yw != 2)=false:=(by simp[bne,n]);have j:Xr (∀v,xq v=(v==2||v==3||v==4)):=fun _=>rfl;generalize mn L u.Yd=V at *;cases s:(V==2)
   ·cases z:(V==3)
    ·cases F:(V==4)
     ·have w:Xr _:=c.o (by rw[j.o,s,z,F];simp);clear c a;go_wp2_with (go_at_call 96;refine q.mono ?_;rintro e B ⟨rfl,d⟩;rw[d]);go_roundg (H.length-(k+1))
      ·exact⟨k+1,by omega,rfl,by go_num,w.o,rfl⟩
      omega
     ·have m:Xr _:=a.o n (by rw[j.o,s,z,F];rfl);clear c a;go_wp2_with (go_at_call 96;refine q.mono ?_;rintro e B ⟨rfl,d⟩;rw[d]);go_ret;exact⟨aE m.o.symm,rfl⟩
    ·have m:Xr _:=a.o n (by rw[j.o,s,z];rfl);clear c a;go_wp2_with (go_at_call 96;refine q.mono ?_;rintro e B ⟨rfl,d⟩;rw[d]);go_ret;exact⟨aE m.o.symm,rfl⟩
   ·have m:Xr _:=a.o n (by rw[j.o,s];rfl);clear c a;go_wp2_with (go_at_call 96;refine q.mono ?_;rintro e B ⟨rfl,d⟩;rw[d]);go_ret;exact⟨aE m.o.symm,rfl⟩
 ·have m:Xr (nc L H=true):=Od L H (fun i o=>g.o i o (by omega));clear g;go_wp2;go_ret;exact⟨aE m.o.symm,rfl⟩
theorem Ah{t:Xs}(h:jM n t S=some I):I<n.length:=by
 unfold jM at h;have:=UV h;simpa using this
def Ik(l:List St)(s:jg):Prop:=s.Yd<=1020000/\((s.Yw==3)=false->s.Yd<l.length)
theorem KN(j:0<b.length)(k:b.length<=10000)(e:List (Xs×Pl))(a:List jg)(h:∀d∈a,Ik b d)(N:Nat)(i:a.length<=N) :
  (∀d∈(ee b l s e a).1,Ik b d)/\(ee b l s e a).1.length<=N+e.length:=by
 induction e generalizing a N with
 | nil =>
  rw[ee];split
  ·exact⟨by simp,by simp⟩
  ·exact⟨h,by simpa using i⟩
 | cons x r g =>
  obtain⟨t,p⟩:=x;rw[ee];split
  ·have:=g (a++[⟨1,0,p⟩]) (by intro d c;simp at c;rcases c with c | rfl;exact h d c;exact⟨by simp,fun _=>j⟩) (N+1) (by simp;omega);exact⟨this.1,by have:=this.2;simp;omega⟩
  ·split
   ·exact⟨by simp,by simp⟩
   ·next n m =>
    have f:=Ah m;have:=g (a++[⟨2,n,p⟩]) (by intro d c;simp at c;rcases c with c | rfl;exact h d c;exact⟨by simp only;omega,fun _=>f⟩) (N+1) (by simp;omega);exact⟨this.1,by have:=this.2;simp;omega⟩
structure zx(l:List St)(c:lK):Prop where
 Yz:∀n∈c.Yz,n<l.length
 Yp:∀n∈c.Yp,n<=1020000
 steps:∀s∈c.steps,Ik l s
theorem zx.letter{c:lK}(g:zx n c)(h:ju c S)(f:0<n.length)(i:n.length<=10000)(l:S<=1020000)(j:Nat)(p:Pl):zx n (bF c j p).2:=by
 have k:=h.steps;unfold bF;split
 ·unfold fn dO;split
  ·next b =>
   refine⟨g.Yz,g.Yp,?_⟩;intro s a;simp at a;rcases a with a | rfl
   ·exact g.steps s a
   ·have:=g.Yz _ (Uu b);rw[Ub b];exact⟨by simp only[Option.getD_some];omega,fun _=>this⟩
  ·split
   ·next b =>
    refine⟨g.Yz,g.Yp,?_⟩;intro s a;simp at a;rcases a with a | rfl
    ·exact g.steps s a
    ·have:=g.Yp _ (Uu b);rw[Ub b];exact⟨this,fun e=>by simp at e⟩
   ·exact⟨g.Yz,g.Yp,g.steps⟩
 ·split
  ·unfold jS;split <;> exact⟨g.Yz,g.Yp,g.steps⟩
  ·split
   ·refine⟨g.Yz,?_,g.steps⟩;intro x d;simp at d;rcases d with d | rfl
    ·exact g.Yp x d
    ·omega
   ·split
    ·refine⟨g.Yz,g.Yp,?_⟩;intro s a;simp[dO]at a;rcases a with a | rfl
     ·exact g.steps s a
     ·exact⟨by simp,fun _=>f⟩
    ·exact g
theorem CJ(l:0<n.length)(a:n.length<=10000)(t:Xs)(p:Pl)(f:Nat):∀(j:Nat) (c:lK) (N:Nat),zx n c->ju c (N+j)->j<=t.size->N+t.size<=1020000->zx n (ic t p f j c).2:=by
 induction f with
 | zero=>intro j c N g h k d;exact g
 | succ f o =>
  intro j c N g h k d;rw[ic];split
  ·next m =>
   have i:=h.letter (aH t j).toNat { p with YD:=p.YD+j };have b:=g.letter h l a (by omega) (aH t j).toNat { p with YD:=p.YD+j };split
   ·exact o (j+1) _ N b (by rw[<-WC];exact i) (by omega) d
   ·exact b
  ·exact g
theorem CL(j:0<n.length)(d:n.length<=10000)(a:List (Xs×Pl)):∀(c:lK) (N:Nat),zx n c->ju c N->N+lh a<=1020000->zx n (qj a c).2/\ju (qj a c).2 1020000:=by
 induction a with
 | nil=>intro c N g h b;exact⟨g,h.mono (by simp[lh]at b;omega)⟩
 | cons x r k =>
  intro c N g h b;obtain⟨t,p⟩:=x;have i:lh ((t,p) :: r)=t.size+lh r:=by simp[lh]
  rw[i]at b;have e:zx n (mq t p c).2:=CJ j d t p _ 0 c N g h (UF _) (by omega);have f:=A8 t p h;rw[qj];split
  ·exact k _ (N+t.size) e f (by omega)
  ·exact⟨e,f.mono (by omega)⟩
theorem Fv(d:List (Xs×Pl))(i:Nat)(c:Xv)(h:∀n∈c,n<b.length):∀n∈(b8 b l s i d c).2,n<b.length:=by
 induction d generalizing i c with
 | nil=>exact h
 | cons x r f =>
  obtain⟨t,p⟩:=x;rw[b8];split
  ·exact h
  ·split
   ·exact h
   ·next n e =>
    split
    ·exact h
    ·exact f (i+1) (c++[n]) (by intro m a;simp at a;rcases a with a | rfl;exact h m a;exact Ah e)
theorem N0(d:j6 b)(o:w<b.length)(k:vQ b[w]):Ir b (bW b w b[w]).1:=by
 have l:0<b.length:=by omega
 have q:=d.prfs w o;have r:=k.size;have a:(∀s∈(bW b w b[w]).1,Ik b s)/\(bW b w b[w]).1.length<=1100000:=by
  unfold bW;split
  ·unfold lu Ab;have f:=Dg b w b[w] d.len q;have g:zx b ⟨(b8 b w b[w].YA 1 (b[w].Yn.drop 1) (aM b w)).2,[],[],0,false⟩:=⟨Fv b w b[w].YA _ 1 _ (fun n p=>DH p),by simp,by simp⟩;generalize b8 b w b[w].YA 1 (b[w].Yn.drop 1) (aM b w)=m at *;obtain⟨⟨c,e⟩,j⟩:=m;simp only at f g ⊢;have vm:zx b (CP e (b[w].Yn.drop c) ⟨j,[],[],0,false⟩).2/\ju (CP e (b[w].Yn.drop c) ⟨j,[],[],0,false⟩).2 1020000:=by
    unfold CP;split
    ·exact CL l d.len _ _ 20000 g f (by have:=EG b[w].Yn c;omega)
    ·exact⟨g,f.mono (by omega)⟩
   generalize CP e (b[w].Yn.drop c) ⟨j,[],[],0,false⟩=R at *;unfold nP;split
   ·split
    ·split
     ·exact⟨by simp,by simp⟩
     ·exact⟨vm.1.steps,by have:=vm.2.steps;simp only;omega⟩
    ·exact⟨by simp,by simp⟩
   ·exact⟨by simp,by simp⟩
  ·have:=KN b w b[w].YA l d.len b[w].Yn [] (by simp) 0 (by simp);exact⟨this.1,by have:=this.2;omega⟩
 exact⟨a.2,fun s i=>by have:=(a.1 s i).1;omega,fun s i=>(a.1 s i).2⟩
section
theorem vZ(k l c u:Int)(a f:Xs)(b d:Xu)(i e j g:Nat) :
    (Instr.field 158 (agg #[int i64 k,string a,slice b i e,slice d j g,string f,int i64 l,int i64 c,int i64 u]) 1).run prog y=.ok (string a) y:=by kernel_rfl
attribute [local go_sem] vZ
def kg(Yx:Xs)(L:List Rw)(steps:List jg)(f:pJ):Rw :=
  if(f.1==0)=true then
    (match pD steps with
     | some u=>⟨Yx,3,0,((steps[u]?).map jg.at_).getD lC⟩
     | none=>if nc L steps=true then⟨Yx,5,0,lC⟩ else⟨Yx,4,0,lC⟩)
  else⟨Yx,2,f.1,f.2⟩
def cQ(l:List St)(n:Nat)(s:St)(L:List Rw):Rw :=
  kg s.Yx L (bW l n s).1 (if(pD (bW l n s).1).isNone=true/\((bW l n s).2.1==0)=true then eF l n s (bW l n s).1 else(bW l n s).2)
theorem fh{x:Rw}(h:T.heap[S]?=some (.cells (ob x).toArray 38)) :
    T.cell? ⟨S,0,none⟩=some (string x.Yx)/\T.cell? ⟨S,1,none⟩=some (int i64 x.Yi)/\T.cell? ⟨S,2,none⟩=some (int i64 x.why)/\T.cell? ⟨S,3,none⟩=some (string x.at_.YB)/\T.cell? ⟨S,4,none⟩=some (int i64 x.at_.YC)/\T.cell? ⟨S,5,none⟩=some (int i64 x.at_.YD):=by
  refine⟨?_,?_,?_,?_,?_,?_⟩ <;> (rw[ah h];rfl)
theorem Ap(K:ae [] T m)(a:T.heap.size<=S)(b c d e f g:Value):ae [] T ((((((m.setCell ⟨S,0,none⟩ b).setCell ⟨S,1,none⟩ c).setCell ⟨S,2,none⟩ d).setCell ⟨S,3,none⟩ e).setCell ⟨S,4,none⟩ f).setCell ⟨S,5,none⟩ g) :=
  (((((K.setCell (Uo a) _).setCell (Uo a) _).setCell (Uo a) _).setCell (Uo a) _).setCell (Uo a) _).setCell (Uo a) _
set_option maxRecDepth 100000
theorem Km(a:List St)(H K:Nat->Hd)(L:List Rw)(s:World)(h:kp s D f a H M L)(ok:j6 a)(ha:l<a.length)(a1:vQ a[l])(aS:iJ s w a a.length K) :
    Calls prog 115 #[pointer (some ⟨D,f,none⟩),int i64 l,slice (some ⟨w,0,none⟩) a.length a.length] s fun e w' =>
      e=returned (agg (ob (cQ a l a[l] L)).toArray)/\ae [] s w':=by
  have ap:=N0 a l ok ha a1;obtain⟨W,hW⟩:∃W,W=s.alloc (.cells #[string ⟨#[]⟩,int i64 0,int i64 0,string ⟨#[]⟩,int i64 0,int i64 0] 38):=⟨_,rfl⟩
  have kW:=fg hW.symm;have BF:W.heap[s.heap.size]?=some (.cells (ob qy).toArray 38):=by rw[hW];exact Ui _ _
  have HW:Xr _:=hW.symm;clear hW;have Y:Xr (cQ a l a[l] L=kg a[l].Yx L (bW a l a[l]).1 (if(pD (bW a l a[l]).1).isNone=true/\((bW a l a[l]).2.1==0)=true then eF a l a[l] (bW a l a[l]).1 else(bW a l a[l]).2)):=rfl;have RD:=fun(w':World) (k:ae [] s w')=>Ay D f l a H w' (h.Yh k).recd ha ok a1;have PL:=fun(hd:Hd) (w':World) (k:ae [] s w') (o':aB w' hd (gJ (bW a l a[l]).1))=>Mm D f w l a H K hd (bW a l a[l]).1 w' (h.Yh k).recd ok ha (aS.Yh k) o' ap;have al:=ap.len;have ax:Xr _:=RD;have ar:Xr _:=PL;clear RD PL ap;generalize bW a l a[l]=PF at *;obtain⟨b,J,G⟩:=PF;simp only at Y ax ar al;go_enter func115,ntmps115;go_upto_region 1 with fail
  rw[HW.o];go_upto_region 2 with (go_at_call 98;refine(bC D f l a H _ (by exact(h.Yh kW).recd) ha).mono ?_;rintro e i ⟨rfl,k1⟩;unfold eW)
  obtain⟨W2,ac⟩:∃W2,W2=i.alloc (.cells #[string a[l].Yx,int i64 0,int i64 0,string ⟨#[]⟩,int i64 0,int i64 0] 38):=⟨_,rfl⟩
  have k2:ae [] W W2:=by rw[ac];exact k1.alloc _
  have BR:W2.heap[i.heap.size]?=some (.cells (ob ⟨a[l].Yx,0,0,lC⟩).toArray 38):=by rw[ac];exact Ui _ _
  have c:s.heap.size<i.heap.size:=by have:=k1.size;have:=aj BF;omega
  rw[<-ac];clear ac;have K2:=kW.trans k2;have a2:=k2.get BF (by simp);go_upto_region 3 with (go_at_call 101;refine(ax.o _ (by exact K2)).mono ?_;rintro e w3 ⟨hd,rfl,ai,ba,k3⟩;unfold iz)
  obtain⟨W4,T⟩:∃W4,W4=w3.alloc (.cells #[int i64 J,string G.YB,int i64 G.YC,int i64 G.YD] 165):=⟨_,rfl⟩
  have k4:ae [] W2 W4:=by rw[T];exact k3.alloc _
  have B9:W4.heap[w3.heap.size]?=some (.cells (Dz (J,G)) 165):=by rw[T];exact Ui _ _
  have O:aB W4 hd (gJ b):=by rw[T];exact ai.Ym (fun x hx=>(bM.alloc _).block x (ai.lt hx) (by simp))
  rw[<-T];clear T;have bc:i.heap.size<w3.heap.size:=by have:=k3.size;have:=aj BR;omega
  have K4:=K2.trans k4;have af:=k4.get BR (by simp);have ad:=k4.get a2 (by simp);have FU:=vg hd b W4 O (by omega);cases hu:pD b with
  | some u =>
    have HU:Xr _:=hu;rw[hu]at FU;simp only[oM]at FU;have a0:u<b.length:=by
      have:=UV hu;simpa using this
    have a5:(u:Int) ≥ 0:=(by omega);have a6:(u:Int)<b.length:=(by omega);clear hu;have Z:=K4;have P:=B9;have j:=af;have y:=ad;obtain⟨f0,f1,f2,f3⟩:=jX P;obtain⟨m,n,o,p,q,r⟩:=fh j;have yr:=am j;simp only[lC]at m n o p q r;cases U:(J==0)
    · have aT:(J != 0)=true:=by simp[bne,U]
      have R:Xr (cQ a l a[l] L=⟨a[l].Yx,2,J,G⟩):=cM (by rw[Y.o,HU.o,U];simp[kg,U]);clear Y;(go_upto_region 4 with (go_at_call 162;refine FU.mono ?_;rintro e wu ⟨rfl,I⟩;rw[I]));(go_upto_region 16 with fail);obtain⟨X,g⟩:∃X,X=((((W4.setCell ⟨i.heap.size,1,none⟩ (int i64 2)).setCell ⟨i.heap.size,2,none⟩ (int i64 J)).setCell ⟨i.heap.size,3,none⟩ (string G.YB)).setCell ⟨i.heap.size,4,none⟩ (int i64 G.YC)).setCell ⟨i.heap.size,5,none⟩ (int i64 G.YD):=⟨_,rfl⟩
      have Q:X.heap[i.heap.size]?=some (.cells (ob ⟨a[l].Yx,2,J,G⟩).toArray 38):=by
        rw[g];rw[ab (ab (ab (ab (ab j _ _) _ _) _ _) _ _) _ _];rfl
      have S:ae [] s X:=(by rw[g];exact(((((Z.setCell (Uo (Vb c)) _).setCell (Uo (Vb c)) _).setCell (Uo (Vb c)) _).setCell (Uo (Vb c)) _).setCell (Uo (Vb c)) _));have d:X.heap[s.heap.size]?=some (.cells (ob qy).toArray 38):=by
        rw[g];rw[Ut _ _ _ _ (by simp;omega)];rw[Ut _ _ _ _ (by simp;omega)];rw[Ut _ _ _ _ (by simp;omega)];rw[Ut _ _ _ _ (by simp;omega)];rw[Ut _ _ _ _ (by simp;omega)];exact y
      rw[<-g];clear g m n o p q r yr;obtain⟨m,n,o,p,q,r⟩:=fh Q;obtain⟨z,A,B,C,E,F⟩:=fh d;have ys:=am d;simp only[qy,lC]at m n o p q r z A B C E F;go_wp2;exact Um (v:=agg (ob ⟨a[l].Yx,2,J,G⟩).toArray) (by simp[results,results115,go_sem,z,A,B,C,E,F,ob]) rfl ⟨by rw[R.o],Ap S (Ue _) _ _ _ _ _ _⟩
    · have aT:(J != 0)=false:=by simp[bne,U]
      obtain⟨gp,ep,az,ag,-,-,d2,d3,d4⟩:=O.step u a0;have R:Xr (cQ a l a[l] L=⟨a[l].Yx,3,0,b[u].at_⟩):=cM (by rw[Y.o,HU.o,U];simp[kg,U,HU.o,a0]);obtain⟨ao,a7⟩:=hd;simp only at ep az ag;subst ep;clear Y;generalize b[u]=st at *;(go_upto_region 4 with (go_at_call 162;refine FU.mono ?_;rintro e wu ⟨rfl,I⟩;rw[I]));(go_upto_region 16 with fail);obtain⟨X,g⟩:∃X,X=(((W4.setCell ⟨i.heap.size,1,none⟩ (int i64 3)).setCell ⟨i.heap.size,3,none⟩ (string st.at_.YB)).setCell ⟨i.heap.size,4,none⟩ (int i64 st.at_.YC)).setCell ⟨i.heap.size,5,none⟩ (int i64 st.at_.YD):=⟨_,rfl⟩
      have Q:X.heap[i.heap.size]?=some (.cells (ob ⟨a[l].Yx,3,0,st.at_⟩).toArray 38):=by
        rw[g];rw[ab (ab (ab (ab j _ _) _ _) _ _) _ _];rfl
      have S:ae [] s X:=(by rw[g];exact((((Z.setCell (Uo (Vb c)) _).setCell (Uo (Vb c)) _).setCell (Uo (Vb c)) _).setCell (Uo (Vb c)) _));have d:X.heap[s.heap.size]?=some (.cells (ob qy).toArray 38):=by
        rw[g];rw[Ut _ _ _ _ (by simp;omega)];rw[Ut _ _ _ _ (by simp;omega)];rw[Ut _ _ _ _ (by simp;omega)];rw[Ut _ _ _ _ (by simp;omega)];exact y
      rw[<-g];clear g m n o p q r yr;obtain⟨m,n,o,p,q,r⟩:=fh Q;obtain⟨z,A,B,C,E,F⟩:=fh d;have ys:=am d;simp only[qy,lC]at m n o p q r z A B C E F;go_wp2;exact Um (v:=agg (ob ⟨a[l].Yx,3,0,st.at_⟩).toArray) (by simp[results,results115,go_sem,z,A,B,C,E,F,ob]) rfl ⟨by rw[R.o],Ap S (Ue _) _ _ _ _ _ _⟩
  | none =>
    have HU:Xr _:=hu;rw[hu]at FU;simp only[oM]at FU;clear hu;cases U:(J==0)
    · have aT:(J != 0)=true:=by simp[bne,U]
      have R:Xr (cQ a l a[l] L=⟨a[l].Yx,2,J,G⟩):=cM (by rw[Y.o,HU.o,U];simp[kg,U]);have Z:=K4;have P:=B9;have j:=af;have y:=ad;obtain⟨f0,f1,f2,f3⟩:=jX P;obtain⟨m,n,o,p,q,r⟩:=fh j;have yr:=am j;simp only[lC]at m n o p q r;clear Y;(go_upto_region 4 with (go_at_call 162;refine FU.mono ?_;rintro e wu ⟨rfl,I⟩;rw[I]));(go_upto_region 16 with fail);obtain⟨X,g⟩:∃X,X=((((W4.setCell ⟨i.heap.size,1,none⟩ (int i64 2)).setCell ⟨i.heap.size,2,none⟩ (int i64 J)).setCell ⟨i.heap.size,3,none⟩ (string G.YB)).setCell ⟨i.heap.size,4,none⟩ (int i64 G.YC)).setCell ⟨i.heap.size,5,none⟩ (int i64 G.YD):=⟨_,rfl⟩
      have Q:X.heap[i.heap.size]?=some (.cells (ob ⟨a[l].Yx,2,J,G⟩).toArray 38):=by
        rw[g];rw[ab (ab (ab (ab (ab j _ _) _ _) _ _) _ _) _ _];rfl
      have S:ae [] s X:=(by rw[g];exact(((((Z.setCell (Uo (Vb c)) _).setCell (Uo (Vb c)) _).setCell (Uo (Vb c)) _).setCell (Uo (Vb c)) _).setCell (Uo (Vb c)) _));have d:X.heap[s.heap.size]?=some (.cells (ob qy).toArray 38):=by
        rw[g];rw[Ut _ _ _ _ (by simp;omega)];rw[Ut _ _ _ _ (by simp;omega)];rw[Ut _ _ _ _ (by simp;omega)];rw[Ut _ _ _ _ (by simp;omega)];rw[Ut _ _ _ _ (by simp;omega)];exact y
      rw[<-g];clear g m n o p q r yr;obtain⟨m,n,o,p,q,r⟩:=fh Q;obtain⟨z,A,B,C,E,F⟩:=fh d;have ys:=am d;simp only[qy,lC]at m n o p q r z A B C E F;go_wp2;exact Um (v:=agg (ob ⟨a[l].Yx,2,J,G⟩).toArray) (by simp[results,results115,go_sem,z,A,B,C,E,F,ob]) rfl ⟨by rw[R.o],Ap S (Ue _) _ _ _ _ _ _⟩
    · have N:Xr (cQ a l a[l] L=kg a[l].Yx L b (eF a l a[l] b)):=by show _=_;rw[Y.o,HU.o,U];simp
      obtain⟨f0,f1,f2,f3⟩:=jX B9;clear Y;generalize eF a l a[l] b=t at *;(go_upto_region 4 with (go_at_call 162;refine FU.mono ?_;rintro e wu ⟨rfl,I⟩;rw[I]));(go_upto_region 7 with (go_at_call 163;refine(ar.o hd _ (by exact K4) (by exact O)).mono ?_;rintro e w5 ⟨rfl,k5⟩;unfold iz;obtain⟨t0,t1,t2,t3⟩:=jX (k5.get B9 (by simp));have yt:=am (k5.get B9 (by simp))));obtain⟨V,hV⟩:∃V,V=(((w5.setCell ⟨w3.heap.size,0,none⟩ (int i64 t.1)).setCell ⟨w3.heap.size,1,none⟩ (string t.2.YB)).setCell ⟨w3.heap.size,2,none⟩ (int i64 t.2.YC)).setCell ⟨w3.heap.size,3,none⟩ (int i64 t.2.YD):=⟨_,rfl⟩
      have P:V.heap[w3.heap.size]?=some (.cells (Dz t) 165):=by
        rw[hV,ab (ab (ab (ab (k5.get B9 (by simp)) _ _) _ _) _ _)];rfl
      have k9:ae [w3.heap.size] w5 V:=(by rw[hV];exact jY _ _ _ _);have Z:ae [] s V:=(by rw[hV];exact lS (K4.trans k5) (by omega) _ _ _ _);have j:=k9.get (k5.get af (by simp)) (by simp;omega);have y:=k9.get (k5.get ad (by simp)) (by simp;omega);have a3:aB V hd (gJ b):=(O.Ym (w':=w5) (fun x hx=>k5.block x (O.lt hx) (by simp))).Ym (fun x hx=>k9.block x (Ul (O.lt hx) k5.size) (by simp;rintro rfl;have:=ai.lt hx;omega));rw[<-hV];clear hV t0 t1 t2 t3 yt;clear f0 f1 f2 f3;obtain⟨f0,f1,f2,f3⟩:=jX P;obtain⟨m,n,o,p,q,r⟩:=fh j;have yr:=am j;simp only[lC]at m n o p q r;cases hf:(t.1==0)
      · have a4:(t.1 != 0)=true:=by simp[bne,hf]
        have R:Xr (cQ a l a[l] L=⟨a[l].Yx,2,t.1,t.2⟩):=cM (by rw[N.o];simp[kg,hf]);clear N;(go_upto_region 16 with fail);obtain⟨X,g⟩:∃X,X=((((V.setCell ⟨i.heap.size,1,none⟩ (int i64 2)).setCell ⟨i.heap.size,2,none⟩ (int i64 t.1)).setCell ⟨i.heap.size,3,none⟩ (string t.2.YB)).setCell ⟨i.heap.size,4,none⟩ (int i64 t.2.YC)).setCell ⟨i.heap.size,5,none⟩ (int i64 t.2.YD):=⟨_,rfl⟩
        have Q:X.heap[i.heap.size]?=some (.cells (ob ⟨a[l].Yx,2,t.1,t.2⟩).toArray 38):=by
          rw[g];rw[ab (ab (ab (ab (ab j _ _) _ _) _ _) _ _) _ _];rfl
        have S:ae [] s X:=(by rw[g];exact(((((Z.setCell (Uo (Vb c)) _).setCell (Uo (Vb c)) _).setCell (Uo (Vb c)) _).setCell (Uo (Vb c)) _).setCell (Uo (Vb c)) _));have d:X.heap[s.heap.size]?=some (.cells (ob qy).toArray 38):=by
          rw[g];rw[Ut _ _ _ _ (by simp;omega)];rw[Ut _ _ _ _ (by simp;omega)];rw[Ut _ _ _ _ (by simp;omega)];rw[Ut _ _ _ _ (by simp;omega)];rw[Ut _ _ _ _ (by simp;omega)];exact y
        rw[<-g];clear g m n o p q r yr;obtain⟨m,n,o,p,q,r⟩:=fh Q;obtain⟨z,A,B,C,E,F⟩:=fh d;have ys:=am d;simp only[qy,lC]at m n o p q r z A B C E F;go_wp2;exact Um (v:=agg (ob ⟨a[l].Yx,2,t.1,t.2⟩).toArray) (by simp[results,results115,go_sem,z,A,B,C,E,F,ob]) rfl ⟨by rw[R.o],Ap S (Ue _) _ _ _ _ _ _⟩
      · have a4:(t.1 != 0)=false:=by simp[bne,hf]
        have RE:=Oc D f a H M L hd b V (h.Yh Z) a3 (by omega);cases hr:nc L b
        · have R:Xr (cQ a l a[l] L=⟨a[l].Yx,4,0,lC⟩):=by show _=_;rw[N.o];simp[kg,hf,HU.o,hr]
          rw[hr]at RE;clear N;(go_upto_region 6 with (go_at_call 164;refine RE.mono ?_;rintro e wv ⟨rfl,an⟩;rw[an]));(go_upto_region 16 with fail);obtain⟨X,g⟩:∃X,X=V.setCell ⟨i.heap.size,1,none⟩ (int i64 4):=⟨_,rfl⟩
          have Q:X.heap[i.heap.size]?=some (.cells (ob ⟨a[l].Yx,4,0,lC⟩).toArray 38):=by
            rw[g];rw[ab j _ _];rfl
          have S:ae [] s X:=(by rw[g];exact(Z.setCell (Uo (Vb c)) _));have d:X.heap[s.heap.size]?=some (.cells (ob qy).toArray 38):=by
            rw[g];rw[Ut _ _ _ _ (by simp;omega)];exact y
          rw[<-g];clear g m n o p q r yr;obtain⟨m,n,o,p,q,r⟩:=fh Q;obtain⟨z,A,B,C,E,F⟩:=fh d;have ys:=am d;simp only[qy,lC]at m n o p q r z A B C E F;go_wp2;exact Um (v:=agg (ob ⟨a[l].Yx,4,0,lC⟩).toArray) (by simp[results,results115,go_sem,z,A,B,C,E,F,ob,lC]) rfl ⟨by rw[R.o],Ap S (Ue _) _ _ _ _ _ _⟩
        · have R:Xr (cQ a l a[l] L=⟨a[l].Yx,5,0,lC⟩):=by show _=_;rw[N.o];simp[kg,hf,HU.o,hr]
          rw[hr]at RE;clear N;(go_upto_region 15 with (go_at_call 164;refine RE.mono ?_;rintro e wv ⟨rfl,an⟩;rw[an]));(go_upto_region 16 with fail);obtain⟨X,g⟩:∃X,X=V.setCell ⟨i.heap.size,1,none⟩ (int i64 5):=⟨_,rfl⟩
          have Q:X.heap[i.heap.size]?=some (.cells (ob ⟨a[l].Yx,5,0,lC⟩).toArray 38):=by
            rw[g];rw[ab j _ _];rfl
          have S:ae [] s X:=(by rw[g];exact(Z.setCell (Uo (Vb c)) _));have d:X.heap[s.heap.size]?=some (.cells (ob qy).toArray 38):=by
            rw[g];rw[Ut _ _ _ _ (by simp;omega)];exact y
          rw[<-g];clear g m n o p q r yr;obtain⟨m,n,o,p,q,r⟩:=fh Q;obtain⟨z,A,B,C,E,F⟩:=fh d;have ys:=am d;simp only[qy,lC]at m n o p q r z A B C E F;go_wp2;exact Um (v:=agg (ob ⟨a[l].Yx,5,0,lC⟩).toArray) (by simp[results,results115,go_sem,z,A,B,C,E,F,ob,lC]) rfl ⟨by rw[R.o],Ap S (Ue _) _ _ _ _ _ _⟩
end
def jO(l:List St)(n:Nat)(prev:List Rw):Rw:=match l[n]? with
 | some s=>if(s.Yw==4)=true then⟨s.Yx,1,0,lC⟩ else if(s.Yw==5)=true then cQ l n s prev else qy
 | none=>qy
def cU(l:List St):Nat->List Rw
 | 0=>[]
 | k+1=>cU l k++[jO l k (cU l k)]
theorem pZ(k:Nat):(cU b k).length=k:=by
 induction k with
 | zero=>rfl
 | succ k a=>simp[cU,a]
def kC(l:List St)(k:Nat):List Rw:=cU l k++List.replicate (l.length-k) qy
theorem yx(h:w<=b.length):(kC b w).length=b.length:=by simp[kC,pZ];omega
theorem KT(h:w<b.length):kC b (w+1)=(kC b w).set w (jO b w (cU b w)):=by
 unfold kC;have e:b.length-w=(b.length-(w+1))+1:=by omega
 rw[e,WS,cU];have a:=pZ b w;rw[V9 _ _ (by omega),a,U3,WW,Vs];rfl
theorem NQ:kC b b.length=cU b b.length:=by simp[kC]
theorem NR(h:w<b.length):(kC b w).set w qy=kC b w:=by
 unfold kC;have e:b.length-w=(b.length-(w+1))+1:=by omega
 have a:=pZ b w;rw[e,WS,V9 _ _ (by omega),a,U3,WW]
theorem OT:mn (x++List.replicate M qy) w=mn x w:=by
 unfold mn;rw[Uc,Uc];by_cases h:w<x.length
 ·rw[Uv h]
 ·rw[Ur (by omega),UT (l:=x) (by omega),VC];split <;> rfl
theorem Es(h:∀n,mn a n=mn zt n)(b:List jg):nc a b=nc zt b:=by
 unfold nc;simp only[h]
theorem BQ(h:∀n,mn a n=mn zt n)(l:List St)(n:Nat)(s:St):cQ l n s a=cQ l n s zt:=by
 unfold cQ kg;rw[Es h]
theorem FR(s:St)(k:Nat):cQ b w s (kC b k)=cQ b w s (cU b k):=BQ (fun _=>OT _ _ _) b w s
theorem pm(A M B:List Value)(i j:Nat)(v:Value)(a:i=A.length+j)(b:j<M.length):(A++(M++B)).set i v=A++(M.set j v++B):=by
 subst a;rw[V9 _ _ (by omega),XV,WL _ _ b]
theorem AL(a:w<x.length):lP x=lP (x.take w)++(ob x[w]++lP (x.drop (w+1))):=by
 have e:x=x.take w++(x[w] :: x.drop (w+1)):=by rw[<-UB a,WF]
 conv=>lhs;rw[e]
 unfold lP;rw[Vz,U4]
theorem QH(a:w<x.length)(r:Rw) :
  (((((((lP x).set (w*6) (string r.Yx)).set (w*6+1) (int i64 r.Yi)).set (w*6+2) (int i64 r.why)).set (w*6+3) (string r.at_.YB)).set (w*6+4) (int i64 r.at_.YC)).set (w*6+5) (int i64 r.at_.YD))=lP (x.set w r):=by
 have c:(lP (x.take w)).length=w*6:=by rw[ED,U6];congr 1;omega
 have b:lP (x.set w r)=lP (x.take w)++(ob r++lP (x.drop (w+1))):=by
  rw[AL (x.set w r) w (by simpa using a)];simp[List.take_set,List.drop_set];rw[List.set_eq_of_length_le (by simp;omega)]
 rw[b,AL x w a,ob,pm _ _ _ _ 0 _ (by omega) (by simp),pm _ _ _ _ 1 _ (by omega) (by simp),pm _ _ _ _ 2 _ (by omega) (by simp),pm _ _ _ _ 3 _ (by omega) (by simp),pm _ _ _ _ 4 _ (by omega) (by simp),pm _ _ _ _ 5 _ (by omega) (by simp)];rfl
theorem ae.wide{S:Xv}(k:ae [] T m):ae S T m:=k.mono (by simp)
def EF(w:World)(g k:Nat)(r:Rw):World :=
 (((((w.setCell ⟨g,k*6,none⟩ (string r.Yx)).setCell ⟨g,k*6+1,none⟩ (int i64 r.Yi)).setCell ⟨g,k*6+2,none⟩ (int i64 r.why)).setCell ⟨g,k*6+3,none⟩ (string r.at_.YB)).setCell ⟨g,k*6+4,none⟩ (int i64 r.at_.YC)).setCell ⟨g,k*6+5,none⟩ (int i64 r.at_.YD)
theorem tj(r:Rw):ae [M] y (EF y M w r) :=
 ((((((ae.refl [M] y).sl1 _).sl1 _).sl1 _).sl1 _).sl1 _).sl1 _
theorem kp.store(h:kp T S I n d o a)(c:S≠o)(i:∀x,gF d x->x≠o)(k:Nat)(j:k<a.length)(r:Rw):kp (EF T o k r) S I n d o (a.set k r):=by
 have e:=tj T o k r;obtain⟨b,t,f,g⟩:=h.cell;refine⟨h.recd.Yu e (by simpa using c) (fun x l=>by simpa using i x l),⟨b,t,e.get f (by simpa using c),by rw[UZ];exact g⟩,?_⟩;unfold EF;rw[ab (ab (ab (ab (ab (ab h.arr _ _) _ _) _ _) _ _) _ _)];simp only[List.setIfInBounds_toArray];rw[QH a k j r]
def wt(l:List St)(H:Nat->Hd):Nat->Hd:=fun i=>if i=6∨(10<=i/\i<10+2*l.length) then H i else⟨none,0⟩
theorem pC(h:w=6∨(10<=w/\w<10+2*b.length)):wt b g w=g w:=Uf h
theorem iy.trim(h:iy T n d):iy T n (wt n d)/\∀k,gF (wt n d) k->k<T.heap.size/\gF d k:=by
 refine⟨⟨?_,fun i s c=>?_,fun i s c=>?_⟩,?_⟩
 ·have e:ny n (wt n d)=ny n d:=by
   rw[<-wl n d (fun i=>if i<10+2*n.length then d i else⟨none,0⟩) (fun j g=>Uf g)];apply zb;intro j g;by_cases b:j<10+2*n.length
   ·simp only[if_pos b];exact pC n d j (Uo ⟨g,b⟩)
   ·simp only[if_neg b];exact Ud (by omega)
  rw[pC n d 6 (Us rfl)];unfold jt;rw[e];exact h.YF
 ·have a:i<n.length:=(Uk.1 c).1;rw[pC n d (10+2*i) (by omega)];exact h.syms i s c
 ·have a:i<n.length:=(Uk.1 c).1;rw[pC n d (11+2*i) (by omega)];exact h.prfs i s c
 ·rintro k ⟨i,a⟩;by_cases f:i=6∨(10<=i/\i<10+2*n.length)
  ·rw[pC n d i f]at a;refine⟨?_,⟨i,a⟩⟩;rcases f with rfl | ⟨l,m⟩
   ·exact h.YF.lt a
   ·by_cases o:(i-10) % 2=0
    ·have e:i=10+2*((i-10) / 2):=(by omega);rw[e]at a;have b:(i-10) / 2<n.length:=by omega
     exact(h.syms _ _ (Ub b)).lt a
    ·have e:i=11+2*((i-10) / 2):=(by omega);rw[e]at a;have b:(i-10) / 2<n.length:=by omega
     exact(h.prfs _ _ (Ub b)).lt a
  ·have e:wt n d i=⟨none,0⟩:=Ud f;rw[e]at a;simp[Hd.Yv]at a
set_option maxRecDepth 100000
theorem ue(h:kp y N D b g f (kC b 0))(ok:j6 b)(ac:∀i (hi:i<b.length),vQ b[i])(hb:N≠f)(hg:∀x,gF g x->x≠f) :
  Calls prog 82 #[pointer (some ⟨N,D,none⟩)] y fun e a=>e=returned (tuple #[])/\kp a N D b g f (cU b b.length)/\ae [f] y a:=by
 have ap:=h.recd.lt;have az:=aj h.arr;have ag:=ok.len;go_enter func82,ntmps82;go_wp2_with (go_at_call 114;refine(tK N D b g _ (by exact h.recd) ok).mono ?_;rintro e w1 ⟨W,K,rfl,A1,ax,Z,k1⟩)
 go_loopg [3] b.length (fun gk iv wr=>∃(k:Nat),k<=b.length/\gk=b.length-k/\iv=int i64 k/\kp wr N D b g f (kC b k)/\iJ wr W b b.length K/\ae [f] y wr)
 ·exact⟨0,by omega,by omega,rfl,h.Yh k1,A1,k1.wide⟩
 obtain⟨k,hk,ar,rfl,w,hA,hK⟩:=hrel;have o:Xr _:=yx b k hk;have c2:=w.at2;rw[o.o]at c2;by_cases d:k<b.length
 ·have l:Xr (jO b k (cU b k)=if(b[k].Yw==4)=true then⟨b[k].Yx,1,0,lC⟩ else if(b[k].Yw==5)=true then cQ b k b[k] (kC b k) else qy):=by
   show _=_;unfold jO;rw[Ub d,FR]
  have j:Xr _:=KT b k d;go_upto_region 5 with (go_at_call 98;refine(bC N D k b g _ (by exact w.recd) d).mono ?_;rintro e R ⟨rfl,k3⟩;unfold eW)
  obtain⟨X,Q⟩:∃X,X=R.alloc (.cells #[int i64 b[k].Yw,string b[k].Yx,slice (g (10+2*k)).ao b[k].Yc.length (g (10+2*k)).cap,slice (g (11+2*k)).ao b[k].Yn.length (g (11+2*k)).cap,string b[k].YA.YB,int i64 b[k].YA.YC,int i64 b[k].YA.YD,int i64 b[k].til] 158):=⟨_,rfl⟩
  have kX:ae [] wr X:=by rw[Q];exact k3.alloc _
  have BX:=fE Q.symm;rw[<-Q];clear Q;obtain⟨m0,m1,-⟩:=zE BX;have c:=w.Yh kX;have O:=hA.Yh kX;have V:=hK.trans kX.wide;have aT:wr.heap.size<=R.heap.size:=k3.size;have af:=aj w.arr;have ad:=w.recd.lt;have u:W≠f:=by omega
  have t:∀n x,(K n).Yv=some x->x∉[f]:=fun n x hx=>by have:=Z n x hx;simp;omega
  have v:=c.at2;rw[o.o]at v;have z:k<(kC b k).length:=by rw[o.o];exact d
  obtain⟨G,H,I,J,L,M⟩:=c.row k z;have S:=am c.arr;have aS:(k:Int)<b.length:=by omega
  have ai:R.heap.size≠f:=by omega
  have al:f≠R.heap.size:=by omega
  have an:f≠N:=fun e=>hb e.symm;clear c2;generalize (kC b k)[k]=m at *;cases P:(b[k].Yw==4)
  ·cases Y:(b[k].Yw==5)
   ·have E:Xr (kC b (k+1)=kC b k):=by
     show _=_;rw[j.o,l.o,P,Y];simp only[Bool.false_eq_true,if_false];exact NR b k d
    clear l j;go_wp2;go_roundg (b.length-(k+1))
    ·exact⟨k+1,by omega,rfl,by go_num,by rw[E.o];exact c,O,V⟩
    omega
   ·have E:Xr (kC b (k+1)=(kC b k).set k (cQ b k b[k] (kC b k))):=(by show _=_;rw[j.o,l.o,P,Y];rfl);have JA:=fun(a:World) (q:ae [] X a)=>Km N D k f W b g K (kC b k) a (c.Yh q) ok d (ac k d) (O.Yh q);have F:Xr _:=JA;have T:Xr (∀a,ae [] X a->a.cell? ⟨N,D+2,none⟩=some (slice (some ⟨f,0,none⟩) b.length b.length)):=by
     intro a q;have:=(c.Yh q).at2;rw[o.o]at this;exact this
    have U:Xr (∀a,ae [] X a->a.cell? ⟨f,k*6,none⟩=some (string m.Yx)/\a.cell? ⟨f,k*6+1,none⟩=some (int i64 m.Yi)/\a.cell? ⟨f,k*6+2,none⟩=some (int i64 m.why)/\a.cell? ⟨f,k*6+3,none⟩=some (string m.at_.YB)/\a.cell? ⟨f,k*6+4,none⟩=some (int i64 m.at_.YC)/\a.cell? ⟨f,k*6+5,none⟩=some (int i64 m.at_.YD)/\∀n,a.frozen? ⟨f,n,none⟩=false):=by
     intro a q;have A:=q.get c.arr (by simp);refine⟨?_,?_,?_,?_,?_,?_,fun n=>am A n⟩
     ·rw[ah A,<-ah c.arr];exact G
     ·rw[ah A,<-ah c.arr];exact H
     ·rw[ah A,<-ah c.arr];exact I
     ·rw[ah A,<-ah c.arr];exact J
     ·rw[ah A,<-ah c.arr];exact L
     ·rw[ah A,<-ah c.arr];exact M
    unfold ob at F;clear l j JA G H I J L M S;generalize cQ b k b[k] (kC b k)=r at *;(go_upto_region 8 with fail);go_region_held3 (fun a=>a.cell? ⟨N,D+2,none⟩=some (slice (some ⟨f,0,none⟩) b.length b.length)) (go_keep) (first | (go_at_call 115;refine(F.o _ (by exact(ae.refl [] X).drew)).mono ?_;rintro e w5 ⟨rfl,k5⟩;have x0:=T.o w5 ((ae.refl [] X).drew.trans k5);obtain⟨G,H,I,J,L,M,S⟩:=U.o w5 ((ae.refl [] X).drew.trans k5)))
    all_goals
     have kk:=((ae.refl [] X).drew.trans k5);have s:=(c.Yh kk).store hb hg k z r;have p:=tj w5 f k r;have B:=(O.Yh kk).Yu p (by simpa using u) t;have C:=(V.trans kk.wide).trans p;rw[<-E.o]at s;unfold EF at s p B C;clear m0 m1 v G H I J L M S x0;go_wp2;go_roundg (b.length-(k+1))
     ·exact⟨k+1,by omega,rfl,by go_num,s,B,C⟩
     omega
  ·have Y:(b[k].Yw==5)=false:=(by have:=WP P;rw[this];rfl);have E:Xr (kC b (k+1)=(kC b k).set k ⟨b[k].Yx,1,0,lC⟩):=cM (by rw[j.o,l.o,P];rfl);clear l j;(go_upto_region 6 with fail);go_region
   all_goals
    have s:=c.store hb hg k z ⟨b[k].Yx,1,0,lC⟩;have p:=tj X f k ⟨b[k].Yx,1,0,lC⟩;have B:=O.Yu p (by simpa using u) t;have C:=V.trans p;rw[<-E.o]at s;unfold EF at s p B C;simp only[lC]at s B C;clear m1 v G H I J L M S p;go_wp2;go_roundg (b.length-(k+1))
    ·exact⟨k+1,by omega,rfl,by go_num,s.Yh bM.drew,B.Yh bM.drew,C.drew⟩
    omega
 ·have e:k=b.length:=by omega
  subst e;rw[NQ]at w;go_wp2;go_end0;exact⟨rfl,w,hK⟩

end Go.Proofs.YtnbhnocdhbcbcaaGreat
