import Derived.Test.YtpdholcaobgofaaGreatP10
namespace Go.Proofs.YtpdholcaobgofaaGreat
open Go.RowKit Tryz
open Value IntKind Ending
set_option maxHeartbeats 0
variable{T g:World}{S L a:Nat}{y:Nat->Hd}{n:List St}{d z8:List Rw}(M o f:Nat)(b:List St)(zf:Nat->Hd)(z4:Xs)(z5:List Bool)(l:Nat)(D:List Rw)(s:Hd)(N:Nat->Hd)(m:Pl)(z7:Xs)(H:List oI)(x:List Rw)(v:World)(z6:List Xs×List Xs)(I w:Nat)
def pS(l:List St)(vs:Xs)(ms:List Bool)(S:List Xs×List Xs)(s:oI):Int×List Xs×List Xs :=
 if((lV l vs ms S.1 S.2 s).1.1==0)=true then
  (if(lV l vs ms S.1 S.2 s).1.2.length<=32 then(0,S.1++[(lV l vs ms S.1 S.2 s).1.2],(lV l vs ms S.1 S.2 s).2++[(lV l vs ms S.1 S.2 s).1.2]) else(10,S))
 else((lV l vs ms S.1 S.2 s).1.1,S)
theorem oV.turned{l:World}{j n k:Nat}{q r b c:List Ex}{f:Nat->Hd}(h:oV T g S L a j n k q r y)(t:aw S g y l f)(i:aO l S 307 (rF L a j n k b c f) (wQ b c) f)(m:∀e∈b,uR g S y e.hd e.xs/\e.xs.length<=32)(o:∀e∈c,uR g S y e.hd e.xs/\e.xs.length<=32):oV T l S L a j n k b c f:=by
 refine⟨⟨i,fun e d=>⟨(m e d).1.turned t,(m e d).2⟩,fun e d=>⟨(o e d).1.turned t,(o e d).2⟩⟩,h.Zbw.ofP t.1 ?_,h.hb,fun x p=>?_⟩
 ·rintro x (e | e)
  ·have:=h.hb;omega
  ·exact h.hin x e
 ·rcases t.2 x p with e | e
  ·exact h.hin x e
  ·exact XF h.Zbw.size e
set_option maxRecDepth 100000
theorem SD(w:World)(b T U g V:Nat)(s:oI)(l:List St)(HR K:Nat->Hd)(A:Xs)(z:List Bool)(hv hm:Hd)(a r:List Ex)(H:Nat->Hd)(E:Jw v T U g V l HR K A z hv hm)(P:oV v w b T U g l.length V a r H)(hn:(s.Zby==3)=false->s.Zbf<l.length)(ax:s.Zbf<=2000000)(az:r.length<=2000000)(a0:a.length<=2000000) :
  Calls prog 209 #[pointer (some ⟨b,0,none⟩),agg #[int i64 s.Zby,int i64 s.Zbf,string s.at_.ZbD,int i64 s.at_.ZbE,int i64 s.at_.ZbF]] w fun e w'=>∃(R S:List Ex) (H':Nat->Hd),
   e=returned (int i64 (pS l A z (a.map Ex.xs,r.map Ex.xs) s).1)/\oV v w' b T U g l.length V R S H' /\
   (((pS l A z (a.map Ex.xs,r.map Ex.xs) s).1==0)=true->(R.map Ex.xs,S.map Ex.xs)=(pS l A z (a.map Ex.xs,r.map Ex.xs) s).2)/\S.length<=r.length+1/\R.length<=a.length+1:=by
 obtain⟨i1,ac,al,am,an⟩:=XV RO;obtain⟨W,hW⟩:∃W,W=w.alloc (.cells #[int i64 s.Zby,int i64 s.Zbf,string s.at_.ZbD,int i64 s.at_.ZbE,int i64 s.at_.ZbF] 174):=⟨_,rfl⟩
 have kW:=dx hW.symm;have B:=dC hW.symm;have HW:Xq _:=hW.symm;obtain⟨u0,u1,u2,u3,u4⟩:=nJ B;have PW:=P.Zbj kW;have SH:=Tz v W b T U g V s l HR K A z hv hm a r H E PW hn ax az;have Z:Xq (∀q,lV l A z (a.map Ex.xs) (r.map Ex.xs) s=q->pS l A z (a.map Ex.xs,r.map Ex.xs) s=if(q.1.1==0)=true then(if q.1.2.length<=32 then(0,a.map Ex.xs++[q.1.2],q.2++[q.1.2]) else(10,a.map Ex.xs,r.map Ex.xs)) else(q.1.1,a.map Ex.xs,r.map Ex.xs)):=by
  intro q C;subst C;rfl
 have t:Xq _:=Z.o _ rfl;generalize lV l A z (a.map Ex.xs) (r.map Ex.xs) s=Q at *;obtain⟨⟨q,xs⟩,t2⟩:=Q;simp only at SH t;clear hW Z B;go_enter func209,ntmps209;go_upto_region 1 with fail
 rw[HW.o];go_wp2_with fail;refine SH.mono ?_;rintro e w2 ⟨d,c,rfl,aS,L,F2,ad,aT⟩;subst aS;cases C:(q==0)
 ·have ar:(q != 0)=true:=by simp[bne,C]
  have D:Xq (pS l A z (a.map Ex.xs,r.map Ex.xs) s=(q,a.map Ex.xs,r.map Ex.xs)):=cm (by rw[t.o,C];rfl);clear t SH u0 u1 u2 u3 u4;go_wp2;go_ret;exact⟨a,d,H,au (by rw[D.o]),L,fun hh=>by rw[D.o]at hh;exact absurd (C.symm.trans hh) (by simp),by omega,by omega⟩
 ·have ar:(q != 0)=false:=by simp[bne,C]
  by_cases y:c.xs.length<=32
  ·have aq:¬((c.xs.length:Int) > 32):=(by omega);have D:Xq (pS l A z (a.map Ex.xs,r.map Ex.xs) s=(0,a.map Ex.xs++[c.xs],t2++[c.xs])):=cm (by rw[t.o,C,XA rfl,XA y]);have ap:Xq _:=ad C;clear t SH u0 u1 u2 u3 u4 ad;(go_upto_region 6 with fail);have D2:=L.ply.bag;have p3:=L.ply.cells.1;have N:=D2.Zbj ((aa.refl [] w2).alloc (.cells #[slice c.hd.ao c.xs.length c.hd.cap] 61));have av:Xq (∀j,j≠0->wQ (a++[c]) d j=wQ a d j):=by
    intro j p
    match j,p with
    | 0,p=>exact absurd rfl p
    | 1,_=>rfl
    | m+2,_=>rfl
   have af:Xq (∀j,j≠1->wQ (a++[c]) (d++[c]) j=wQ (a++[c]) d j):=by
    intro j p
    match j,p with
    | 0,_=>rfl
    | 1,p=>exact absurd rfl p
    | m+2,_=>rfl
   go_wp2_with (at_builtin;refine aR _ rfl (.tmp 23) (.tmp 25) 218 rfl i1 (slice none 0 0) 24 (H 0) (iK a) underlying218 ac al am an rfl XR rfl (by exact N.ZbH 0) ⟨_,0,none⟩ 1 1 [slice c.hd.ao c.xs.length c.hd.cap] rfl rfl ?e1 ?e2 XR ?e3 ?e4 ?_)
   case e1=>intro j u p;match j,p with | 0,p=>simp at p;subst p;simp[Addr.add]
   case e2=>intro u hu;simp at hu;subst hu;rfl
   case e3=>simp only[iK];unfold maxLen;omega
   case e4=>simp only[iK];omega
   intro M f w4 ag G i;obtain⟨k4,f4,J⟩:=N.app (cs':=rF T U g l.length V (a++[c]) d (gj H 0 ⟨some ⟨M,0,none⟩,f⟩)) (rows':=wQ (a++[c]) d) 3 0 M f ((iK a).n+1) _ ag (xR a c) G (by simpa using i) av.o (slice (H 0).ao a.length (H 0).cap) rfl (by simp[rF,gj,iK]);clear ag G i N p3;(go_upto_region 7 with fail);generalize hX:w4.setCell ⟨b,3,none⟩ (slice (some ⟨M,0,none⟩) ((iK a).n+1) f)=X at J ⊢;have DX:=J.o.1;have TX:Xq _:=J.o.2.first (bH.alloc _);have p4:=DX.cell 4;simp only[rF,List.getElem?_cons_succ,List.getElem?_cons_zero]at p4;have O:=DX.Zbj ((aa.refl [] X).alloc (.cells #[slice c.hd.ao c.xs.length c.hd.cap] 61));clear hX k4 f4;go_wp2_with (at_builtin;refine aR _ rfl (.tmp 33) (.tmp 35) 218 rfl i1 (slice none 0 0) 24 (gj H 0 ⟨some ⟨M,0,none⟩,f⟩ 1) (iK d) underlying218 ac al am an rfl XR rfl (by exact O.ZbH 1) ⟨_,0,none⟩ 1 1 [slice c.hd.ao c.xs.length c.hd.cap] rfl rfl ?e1 ?e2 XR ?e3 ?e4 ?_)
   case e1=>intro j u p;match j,p with | 0,p=>simp at p;subst p;simp[Addr.add]
   case e2=>intro u hu;simp at hu;subst hu;rfl
   case e3=>simp only[iK];unfold maxLen;omega
   case e4=>simp only[iK];omega
   intro g6 F w6 ai I k;obtain⟨k6,f6,Y⟩:=O.app (cs':=rF T U g l.length V (a++[c]) (d++[c]) (gj (gj H 0 ⟨some ⟨M,0,none⟩,f⟩) 1 ⟨some ⟨g6,0,none⟩,F⟩)) (rows':=wQ (a++[c]) (d++[c])) 4 1 g6 F ((iK d).n+1) _ ai (xR d c) I (by simpa using k) af.o (slice (gj H 0 ⟨some ⟨M,0,none⟩,f⟩ 1).ao d.length (gj H 0 ⟨some ⟨M,0,none⟩,f⟩ 1).cap) rfl (by simp[rF,gj,iK]);have T6:Xq _:=aw.trans TX.o (Y.o.2.first (bH.alloc _));clear ai I k O p4;go_wp2;go_ret;refine⟨a++[c],d++[c],_,au (by rw[D.o]),L.turned T6.o Y.o.1 (fun e x=>?_) (fun e x=>?_),fun _=>by rw[D.o];simp[ap.o],by simp;omega,by simp⟩
   ·rw[X9]at x;rcases x with x | x
    ·exact L.ply.shs e x
    ·simp at x;subst x;exact⟨F2,y⟩
   ·rw[X9]at x;rcases x with x | x
    ·exact L.ply.ths e x
    ·simp at x;subst x;exact⟨F2,y⟩
  ·have aq:(c.xs.length:Int) > 32:=(by omega);have D:Xq (pS l A z (a.map Ex.xs,r.map Ex.xs) s=(10,a.map Ex.xs,r.map Ex.xs)):=cm (by rw[t.o,C,XA rfl,Xz y]);clear t SH u0 u1 u2 u3 u4;go_wp2;go_ret;exact⟨a,d,H,au (by rw[D.o]),L,by rw[D.o];simp,by omega,by omega⟩
def Xe(ZbC:Pl)(goal:Xs)(th:List Xs):sB :=
 match th with
 | []=>(12,ZbC)
 | [x]=>if Jo x goal=true then dJ else(12,ZbC)
 | _ :: _ :: _=>(11,ZbC)
def rE(l:List St)(vs:Xs)(ms:List Bool)(ZbC:Pl)(goal:Xs):List oI->List Xs×List Xs->sB
 | [],S=>Xe ZbC goal S.2
 | s :: r,S=>if((pS l vs ms S s).1==0)=true then rE l vs ms ZbC goal r (pS l vs ms S s).2 else((pS l vs ms S s).1,s.at_)
def jb(l:List St)(a:Nat)(s:St)(steps:List oI):sB:=rE l (CI l a) (ii l a (CI l a)) s.ZbC s.Zbe steps ([],[])
theorem KD(a:w<H.length) :
  rE b z4 z5 m z7 (H.drop w) z6=if((pS b z4 z5 z6 H[w]).1==0)=true then rE b z4 z5 m z7 (H.drop (w+1)) (pS b z4 z5 z6 H[w]).2 else((pS b z4 z5 z6 H[w]).1,H[w].at_):=by
 rw[X0 a];rfl
theorem Ig(a:¬w<H.length) :
  rE b z4 z5 m z7 (H.drop w) z6=Xe m z7 z6.2:=by
 rw[YQ (by omega)];rfl
theorem PJ(l:List oI)(k:Nat)(a:k<l.length)(j:Nat)(d:j<5):(Bp l)[k*5+j]?=(mO l[k])[j]?:=by
 induction l generalizing k with
 | nil=>simp at a
 | cons s r c =>
  have e:Bp (s :: r)=mO s++Bp r:=rfl;rw[e];cases k with
  | zero=>rw[XP (by simp[mO];omega)];simp
  | succ k =>
   rw[XO (by simp[mO];omega)];have b:(k+1)*5+j-(mO s).length=k*5+j:=by simp[mO];omega
   rw[b,c k (by simpa using a)];rfl
theorem aD.step{h:Hd}{l:List oI}(o:aD T h (iO l))(k:Nat)(m:k<l.length) :
  ∃g,h.ao=some ⟨g,0,none⟩/\l.length<=h.cap/\h.cap<=9223372036854775807/\T.cell? ⟨g,k*5,none⟩=some (int i64 l[k].Zby)/\T.cell? ⟨g,k*5+1,none⟩=some (int i64 l[k].Zbf)/\T.cell? ⟨g,k*5+2,none⟩=some (string l[k].at_.ZbD)/\T.cell? ⟨g,k*5+3,none⟩=some (int i64 l[k].at_.ZbE)/\T.cell? ⟨g,k*5+4,none⟩=some (int i64 l[k].at_.ZbF):=by
 rcases o.Zbu with ⟨_,f,_⟩ | ⟨g,d,a,p,e,b,-⟩
 ·have:l.length=0:=f;omega
 ·have c:=fun j (i:j<5) v (n:(mO l[k])[j]?=some v)=>o.cell a (k*5+j) v ((PJ l k m j i).trans n);exact⟨g,a,e,by unfold maxLen at b;exact b,c 0 (by omega) _ rfl,c 1 (by omega) _ rfl,c 2 (by omega) _ rfl,c 3 (by omega) _ rfl,c 4 (by omega) _ rfl⟩
structure L7(l:List St)(steps:List oI):Prop where
 len:steps.length<=1100000
 num:∀s∈steps,s.Zbf<=2000000
 named:∀s∈steps,(s.Zby==3)=false->s.Zbf<l.length
theorem Qx(b:List St)(d K:Nat->Hd)(p:Hd)(a:List oI)(C:World)(hr:dQ C f l b d)(ok:iV b)(ha:w<b.length)(am:ji C I b b.length K)(hO:aD C p (iO a))(S:L7 b a) :
  Calls prog 161 #[pointer (some ⟨f,l,none⟩),int i64 w,slice (some ⟨I,0,none⟩) b.length b.length,slice p.ao a.length p.cap] C fun e c =>
   e=returned (jh (jb b w b[w] a))/\aa [] C c:=by
 have a1:=ok.len;have bd:=S.len;have bj:=ok.syms w ha;obtain⟨AO,ad⟩:=aP (p.ao);rw[ad.o];obtain⟨W,hW⟩:∃W,W=C.alloc (.cells #[int i64 0,string ⟨#[]⟩,int i64 0,int i64 0] 165):=⟨_,rfl⟩
 have kW:=dx hW.symm;have BF:W.heap[C.heap.size]?=some (.cells bM 165):=by rw[hW];exact XD _ _
 have HW:Xq _:=hW.symm;have bg:(CI b w).length<=b.length:=FN b w b.length;clear hW;go_enter func161,ntmps161;go_upto_region 1 with fail
 rw[HW.o];go_upto_region 2 with (go_at_call 207;refine(ut f l w b d _ (by exact hr.Zbj kW) ok).mono ?_;rintro e w2 ⟨aS,rfl,ax,a4,k2⟩)
 have K2:=kW.trans k2;go_wp2_with (go_at_call 208;refine(JE f l w b d aS (CI b w) _ (by exact hr.Zbj K2) ok (by exact ax) (by omega)).mono ?_;rintro e s ⟨tb,hv,hm,rfl,A3,be,ba,k3⟩);have K3:=K2.trans k3;have ac:=(k2.trans k3).get BF (by simp);have E:Jw s f l I tb b d K (CI b w) (ii b w (CI b w)) hv hm:=⟨hr.Zbj K3,ok,am.Zbj K3,A3,lT _ _ _ _,by omega⟩;have L:aD s p (iO a):=hO.Zbo (fun x T=>K3.block x (hO.lt T) (by simp));have P4:oV s (s.alloc (.cells #[pointer (some ⟨f,l,none⟩),slice (some ⟨I,0,none⟩) b.length b.length,pointer (some ⟨tb,0,none⟩),slice none 0 0,slice none 0 0] 307)) s.heap.size f l I b.length tb [] [] pg:=by
  refine⟨⟨⟨XD _ _,?_,fun i j _=>XQ rfl,fun i e=>by simp[pg,Hd.Zbx]at e⟩,by simp,by simp⟩,bH.alloc _,Xy _,fun x T=>by obtain⟨i,hi⟩:=T;simp[pg,Hd.Zbx]at hi⟩;intro i
  match i with
  | 0=>exact XE _ _ _ _
  | 1=>exact XE _ _ _ _
  | m+2=>exact XE _ _ _ _
 go_loopg [11] a.length (fun gk iv wr=>∃(i:Nat) (N r:List Ex) (H:Nat->Hd),i<=a.length/\gk=a.length-i/\iv=int i64 i/\N.length<=i/\r.length<=i/\Xq (jb b w b[w] a=rE b (CI b w) (ii b w (CI b w)) b[w].ZbC b[w].Zbe (a.drop i) (N.map Ex.xs,r.map Ex.xs))/\oV s wr s.heap.size f l I b.length tb N r H)
 ·exact⟨0,[],[],pg,by omega,by omega,rfl,by simp,by simp,rfl,P4⟩
 obtain⟨i,N,r,H,hi,hg,rfl,bc,bf,hR,P⟩:=hrel;clear P4;have B:=P.Zbw.get ac (by simp);obtain⟨t,u,z,A⟩:=dM B;have O:=zcW B;have KW:=K3.trans P.Zbw;by_cases n:i<a.length
 ·have ai:aD wr p (iO a):=L.Zbo (fun x T=>P.Zbw.block x (L.lt T) (by simp));obtain⟨gp,ep,a0,av,d0,d1,d2,d3,d4⟩:=ai.step i n;obtain rfl:AO=some ⟨gp,0,none⟩:=ad.o.symm.trans ep;have h1:=S.num a[i] (XM n);have h2:=S.named a[i] (XM n);have g:Xq _:=hR.o.trans (KD b (CI b w) (ii b w (CI b w)) b[w].ZbC b[w].Zbe a (N.map Ex.xs,r.map Ex.xs) i n);have PA:=SD s wr s.heap.size f l I tb a[i] b d K (CI b w) (ii b w (CI b w)) hv hm N r H E P h2 h1 (by omega) (by omega);have af:Xq (∀c,aa [] s c->c.cell? ⟨gp,i*5+2,none⟩=some (string a[i].at_.ZbD)/\c.cell? ⟨gp,i*5+3,none⟩=some (int i64 a[i].at_.ZbE)/\c.cell? ⟨gp,i*5+4,none⟩=some (int i64 a[i].at_.ZbF)):=by
   intro c k;obtain⟨a3,ag,-,-,-,-,q2,q3,q4⟩:=(L.Zbo (w':=c) (fun x T=>k.block x (L.lt T) (by simp))).step i n;rw[ep]at ag;cases ag
   exact⟨q2,q3,q4⟩
  clear hR ep ai;generalize a[i]=st at *;obtain⟨sk,sn,V,Y,U⟩:=st;simp only at d0 d1 d2 d3 d4 PA af g;generalize pS b (CI b w) (ii b w (CI b w)) (N.map Ex.xs,r.map Ex.xs) ⟨sk,sn,⟨V,Y,U⟩⟩=Q at *;obtain⟨q,Q2⟩:=Q;simp only at PA g;cases hq:(q==0)
  ·have az:(q != 0)=true:=(by simp[bne,hq]);have D:Xq (jb b w b[w] a=(q,⟨V,Y,U⟩)):=cm (by rw[g.o,Xz (by rw[hq];simp)]);clear g;(go_upto_region 8 with (go_at_call 209;refine PA.mono ?_;rintro e Z ⟨ap,aq,H5,rfl,P5,al,-,-⟩));obtain⟨c2,c3,c4⟩:=af.o Z P5.Zbw;have R:=P5.Zbw.get ac (by simp);clear t u z A O d0 d1 d2 d3 d4;obtain⟨t,u,z,A⟩:=dM R;have O:=zcW R;have K5:=K3.trans P5.Zbw;go_wp2;exact XG (v:=agg #[int i64 q,string V,int i64 Y,int i64 U]) (by simp[results,results161,go_sem,t,u,z,A]) rfl
    ⟨by rw[D.o];rfl,mN (F:=C.heap.size) K5 (Xy _) _ _ _ _⟩
  ·have az:(q != 0)=false:=(by simp[bne,hq]);have D:Xq (jb b w b[w] a=rE b (CI b w) (ii b w (CI b w)) b[w].ZbC b[w].Zbe (a.drop (i+1)) Q2):=cm (by rw[g.o,XA hq]);clear g;go_wp2_with (go_at_call 209;refine PA.mono ?_;rintro e Z ⟨ap,aq,H5,rfl,P5,al,a6,a7⟩);go_roundg (a.length-(i+1))
   ·exact⟨i+1,ap,aq,H5,by omega,rfl,by go_num,by omega,by omega,by show _=_;rw[al hq];exact D.o,P5⟩
   omega
 ·have HE:Xq _:=hR.o.trans (Ig b (CI b w) (ii b w (CI b w)) b[w].ZbC b[w].Zbe a (N.map Ex.xs,r.map Ex.xs) i n);have Er:=E.Zbj P.Zbw;clear hR;go_upto_region 10 with (go_at_call 96;refine(bu f l w b d _ (by exact Er.recd) ha).mono ?_;rintro e Z ⟨rfl,k5⟩;unfold du)
  obtain⟨X,hX⟩:∃X,X=Z.alloc (.cells #[int i64 b[w].Zby,string b[w].Zbz,slice (d (10+2*w)).ao b[w].Zbe.length (d (10+2*w)).cap,slice (d (11+2*w)).ao b[w].Zbp.length (d (11+2*w)).cap,string b[w].ZbC.ZbD,int i64 b[w].ZbC.ZbE,int i64 b[w].ZbC.ZbF,int i64 b[w].til] 158):=⟨_,rfl⟩
  have kX:aa [] wr X:=by rw[hX];exact k5.alloc _
  have BX:=dC hX.symm;rw[<-hX];have PX:=P.Zbj kX;have R:=kX.get B (by simp);clear hX t u z A O;obtain⟨t,u,z,A⟩:=dM R;have O:=zcW R;have KX:=KW.trans kX;obtain⟨-,-,m2,-,m4,m5,m6,-⟩:=yY BX;have p4:=PX.ply.cells.2;rcases r with _ | ⟨x,r⟩
  ·have D:Xq (jb b w b[w] a=(12,b[w].ZbC)):=HE.o;simp only[List.length_nil]at p4;clear HE;(go_upto_region 12 with fail);go_quiet (fail);go_wp2;exact XG (v:=agg #[int i64 12,string b[w].ZbC.ZbD,int i64 b[w].ZbC.ZbE,int i64 b[w].ZbC.ZbF]) (by simp[results,results161,go_sem,t,u,z,A]) rfl
    ⟨by rw[D.o];rfl,mN (F:=C.heap.size) (KX.drewN _) (Xy _) _ _ _ _⟩
  ·rcases r with _ | ⟨y,r⟩
   ·have hE:jb b w b[w] a=if Jo x.xs b[w].Zbe=true then dJ else(12,b[w].ZbC):=HE.o;have G:Xq _:=hE;have oT:aD X (H 1) (iK [x]):=PX.ply.bag.ZbH 1;rcases oT.Zbu with ⟨_,h0,_⟩ | ⟨gt,aT,et,-,a2,-⟩
    ·simp[iK]at h0
    have ct:=oT.cell et 0 (Ae x) rfl;unfold Ae at ct;rw[et]at p4;simp only[List.length_cons,List.length_nil]at p4;have an:=(PX.ply.ths x (by simp));have J:Xq _:=fun(c:World) (k:aa [] X c)=>CO x.hd (d (10+2*w)) x.xs b[w].Zbe c (an.1.view.Zbj k) (((Er.Zbj (kX.trans k)).recd.Zbv.syms w b[w] (Xv ha)).view) (by omega) (by omega);have HC:Xq (∀c,aa [] X c->c.cell? ⟨s.heap.size,4,none⟩=some (slice (some ⟨gt,0,none⟩) 1 (H 1).cap)/\c.cell? ⟨gt,0,none⟩=some (slice x.hd.ao x.xs.length x.hd.cap)/\c.cell? ⟨Z.heap.size,2,none⟩=some (slice (d (10+2*w)).ao b[w].Zbe.length (d (10+2*w)).cap)):=by
     intro c k;refine⟨?_,((PX.Zbj k).ply.bag.ZbH 1).cell et 0 (Ae x) rfl,?_⟩
     ·rw[<-et];exact(PX.Zbj k).ply.cells.2
     ·rw[ab (k.get BX (by simp))];rfl
    clear hE HE et oT;(go_upto_region 12 with fail);cases M:Jo x.xs b[w].Zbe
    ·have D:Xq (jb b w b[w] a=(12,b[w].ZbC)):=(by show _=_;rw[G.o,M];rfl);rw[M]at J;clear G;go_region_held3 (fun c=>c.cell? ⟨s.heap.size,4,none⟩=some (slice (some ⟨gt,0,none⟩) 1 (H 1).cap)/\c.cell? ⟨gt,0,none⟩=some (slice x.hd.ao x.xs.length x.hd.cap)/\c.cell? ⟨Z.heap.size,2,none⟩=some (slice (d (10+2*w)).ao b[w].Zbe.length (d (10+2*w)).cap)) (go_keep) (first | (go_at_call 210;refine(J.o _ (by exact(aa.refl [] X).drew)).mono ?_;rintro e w6 ⟨rfl,k6⟩;obtain⟨x0,x1,x2⟩:=HC.o w6 ((aa.refl [] X).drew.trans k6)))
     all_goals
      have kk:=((aa.refl [] X).drew.trans k6);have ar:=kk.get BX (by simp);have B6:=kk.get R (by simp);clear t u z A O m2 m4 m5 m6 p4 ct;obtain⟨t,u,z,A⟩:=dM B6;have O:=zcW B6;obtain⟨-,-,-,-,m4,m5,m6,-⟩:=yY ar;go_wp2;exact XG (v:=agg #[int i64 12,string b[w].ZbC.ZbD,int i64 b[w].ZbC.ZbE,int i64 b[w].ZbC.ZbF]) (by simp[results,results161,go_sem,t,u,z,A]) rfl ⟨by rw[D.o];rfl,mN (F:=C.heap.size) (KX.trans kk) (Xy _) _ _ _ _⟩
    ·have D:Xq (jb b w b[w] a=dJ):=(by show _=_;rw[G.o,M];rfl);rw[M]at J;clear G;go_region_held3 (fun c=>c.cell? ⟨s.heap.size,4,none⟩=some (slice (some ⟨gt,0,none⟩) 1 (H 1).cap)/\c.cell? ⟨gt,0,none⟩=some (slice x.hd.ao x.xs.length x.hd.cap)/\c.cell? ⟨Z.heap.size,2,none⟩=some (slice (d (10+2*w)).ao b[w].Zbe.length (d (10+2*w)).cap)) (go_keep) (first | (go_at_call 210;refine(J.o _ (by exact(aa.refl [] X).drew)).mono ?_;rintro e w6 ⟨rfl,k6⟩;obtain⟨x0,x1,x2⟩:=HC.o w6 ((aa.refl [] X).drew.trans k6)))
     all_goals
      have kk:=((aa.refl [] X).drew.trans k6);have B6:=kk.get R (by simp);clear t u z A O m2 m4 m5 m6 p4 ct;obtain⟨t,u,z,A⟩:=dM B6;have O:=zcW B6;go_wp2;exact XG (v:=agg #[int i64 0,string ⟨#[]⟩,int i64 0,int i64 0]) (by simp[results,results161,go_sem,t,u,z,A]) rfl ⟨by rw[D.o];rfl,mN (F:=C.heap.size) (KX.trans kk) (Xy _) _ _ _ _⟩
   ·have D:Xq (jb b w b[w] a=(11,b[w].ZbC)):=HE.o;have a5:((r.length:Int)+1+1 > 1):=(by omega);simp only[List.length_cons]at p4;clear HE;go_wp2;exact XG (v:=agg #[int i64 11,string b[w].ZbC.ZbD,int i64 b[w].ZbC.ZbE,int i64 b[w].ZbC.ZbF]) (by simp[results,results161,go_sem,t,u,z,A]) rfl
     ⟨by rw[D.o];rfl,mN (F:=C.heap.size) KX (Xy _) _ _ _ _⟩
structure mK(w:World)(b o:Nat)(l:List St)(H:Nat->Hd)(g:Nat)(L:List Rw):Prop where
 recd:dQ w b o l H
 cell:∃arr t,w.heap[b]?=some (.cells arr t)/\arr[o+2]?=some (slice (some ⟨g,0,none⟩) L.length L.length)
 arr:w.heap[g]?=some (.cells (mF L).toArray 38)
theorem mK.Zbj(h:mK T S L n y a d)(k:aa [] T g):mK g S L n y a d:=by
 obtain⟨b,t,c,e⟩:=h.cell;exact⟨h.recd.Zbj k,⟨b,t,k.get c (by simp),e⟩,k.get h.arr (by simp)⟩
theorem mK.at2(h:mK T S L n y a d):T.cell? ⟨S,L+2,none⟩=some (slice (some ⟨a,0,none⟩) d.length d.length):=by
 obtain⟨b,t,c,e⟩:=h.cell;rw[ab c];exact e
theorem mK.row(h:mK T S L n y a d)(k:Nat)(e:k<d.length) :
  T.cell? ⟨a,k*6,none⟩=some (string d[k].Zbz)/\T.cell? ⟨a,k*6+1,none⟩=some (int i64 d[k].Zbk)/\T.cell? ⟨a,k*6+2,none⟩=some (int i64 d[k].why)/\T.cell? ⟨a,k*6+3,none⟩=some (string d[k].at_.ZbD)/\T.cell? ⟨a,k*6+4,none⟩=some (int i64 d[k].at_.ZbE)/\T.cell? ⟨a,k*6+5,none⟩=some (int i64 d[k].at_.ZbF):=by
 have c:=fun j (b:j<6) v (f:(pm d[k])[j]?=some v)=>(ab h.arr (k*6+j)).trans ((by simp only[List.getElem?_toArray];exact(M3 d k e j b).trans f));exact⟨c 0 (by omega) _ rfl,c 1 (by omega) _ rfl,c 2 (by omega) _ rfl,c 3 (by omega) _ rfl,c 4 (by omega) _ rfl,c 5 (by omega) _ rfl⟩
def qm(L:List Rw)(n:Nat):Int:=(L.getD n tO).Zbk
set_option maxRecDepth 512
theorem Jb(h:mK v M o b zf l x) :
  Calls prog 94 #[pointer (some ⟨M,o,none⟩),int i64 f] v fun e g=>e=returned (int i64 (qm x f))/\g=v:=by
 have i:=h.at2;by_cases a:f<x.length
 ·have d:Xq (qm x f=x[f].Zbk):=by show _=_;unfold qm;rw[Xw,Xv a];rfl
  obtain⟨-,j,-,-,-,-⟩:=h.row f a;have c:¬((f:Int) ≥ x.length):=by omega
  go_enter func94,ntmps94;go_wp2;go_ret;exact⟨au (by rw[d.o]),rfl⟩
 ·have d:Xq (qm x f=0):=by show _=_;unfold qm;rw[Xw,Yb (by omega)];rfl
  have c:(f:Int) ≥ x.length:=by omega
  go_enter func94,ntmps94;go_wp2;go_ret;exact⟨au (by rw[d.o]),rfl⟩
def Lz(steps:List oI):Option Nat:=(List.range steps.length).find? (fun i=>match steps[i]? with | some s=>s.Zby==1 | none=>false)
theorem xw(w:aD v s (iO H))(C:H.length<=1073741824) :
  Calls prog 160 #[slice s.ao H.length s.cap] v fun e y=>e=returned (int i64 (iu (Lz H)))/\y=v:=by
 obtain⟨r,c⟩:=aP (s.ao);rw[c.o];go_enter func160,ntmps160;go_wp2
 go_loopg [3] H.length (fun g i wr=>∃k:Nat,k<=H.length/\g=H.length-k/\i=int i64 k/\Xq (∀i,i<k->(match H[i]? with | some l=>l.Zby==1 | none=>false)=false)/\wr=v)
 ·exact⟨0,by omega,by omega,rfl,fun i q=>by omega,rfl⟩
 obtain⟨k,B,A,rfl,a,rfl⟩:=hrel;by_cases b:k<H.length
 ·obtain⟨u,n,m,j,z,-⟩:=w.step k b;obtain rfl:r=some ⟨u,0,none⟩:=c.o.symm.trans n;clear n;have d:Xq (H[k]?=some H[k]):=Xv b;generalize H[k]=x at *;cases p:(x.Zby==1)
  ·have t:Xq (∀i,i<k+1->(match H[i]? with | some l=>l.Zby==1 | none=>false)=false):=by
    intro i q;by_cases e:i=k
    ·subst e;rw[d.o];exact p
    ·exact a.o i (by omega)
   clear d a;go_wp2;go_roundg (H.length-(k+1))
   ·exact⟨k+1,by omega,rfl,by go_num,t,rfl⟩
   omega
  ·have f:Xq (Lz H=some k):=jP b (by rw[d.o];exact p) a.o;clear d a;go_wp2;go_ret;exact⟨au (by rw[f.o];rfl),rfl⟩
 ·have f:Xq (Lz H=none):=jz (fun i q=>a.o i (by omega));clear a;go_wp2;go_ret;exact⟨au (by rw[f.o];rfl),rfl⟩
def JF(v:Int):Bool:=v==2||v==3||v==4
def se(L:List Rw)(steps:List oI):Bool:=steps.all (fun s=>!(s.Zby==2) || !(JF (qm L s.Zbf)))
theorem Wh(c:w<H.length)(a:(H[w].Zby==2)=true)(b:JF (qm D H[w].Zbf)=true):se D H=false:=by
 cases e:se D H
 ·rfl
 ·unfold se at e;rw[YP]at e;have:=e _ (XM c);rw[a,b]at this;cases this
theorem Tg(h:∀k (a:k<H.length),(!(H[k].Zby==2) || !(JF (qm D H[k].Zbf)))=true):se D H=true:=by
 unfold se;rw[YP];intro x b;obtain⟨k,a,rfl⟩:=Yr b;exact h k a
theorem Tf(h:mK v o f b zf l D)(M:aD v s (iO H))(N:H.length<=1100000) :
  Calls prog 162 #[pointer (some ⟨o,f,none⟩),slice s.ao H.length s.cap] v fun e O=>e=returned (bool (se D H))/\O=v:=by
 obtain⟨I,q⟩:=aP (s.ao);rw[q.o];go_enter func162,ntmps162;go_wp2
 go_loopg [5] H.length (fun l i wr=>∃k:Nat,k<=H.length/\l=H.length-k/\i=int i64 k/\Xq (∀i (p:i<H.length),i<k->(!(H[i].Zby==2) || !(JF (qm D H[i].Zbf)))=true)/\wr=v)
 ·exact⟨0,by omega,by omega,rfl,fun i _ p=>by omega,rfl⟩
 obtain⟨k,S,R,rfl,g,rfl⟩:=hrel;by_cases t:k<H.length
 ·obtain⟨J,F,E,z,P,Q,-⟩:=M.step k t;obtain rfl:I=some ⟨J,0,none⟩:=q.o.symm.trans F;clear F;have c:Xq ((!(H[k].Zby==2) || !(JF (qm D H[k].Zbf)))=true->∀i (p:i<H.length),i<k+1->(!(H[i].Zby==2) || !(JF (qm D H[i].Zbf)))=true):=by
   intro K i p L;by_cases e:i=k
   ·subst e;exact K
   ·exact g.o i p (by omega)
  have a:Xq _:=Wh D H k t;have r:=Jb o f H[k].Zbf b zf l D wr h;clear g;generalize H[k]=w at *;cases n:(w.Zby==2)
  ·have B:(w.Zby != 2)=true:=(by simp[bne,n]);have y:Xq _:=(c.o (by rw[n];rfl));clear c a r;go_wp2;go_roundg (H.length-(k+1))
   ·exact⟨k+1,by omega,rfl,by go_num,y.o,rfl⟩
   omega
  ·have B:(w.Zby != 2)=false:=(by simp[bne,n]);have j:Xq (∀x,JF x=(x==2||x==3||x==4)):=fun _=>rfl;generalize qm D w.Zbf=V at *;cases u:(V==2)
   ·cases A:(V==3)
    ·cases G:(V==4)
     ·have y:Xq _:=c.o (by rw[j.o,u,A,G];simp);clear c a;go_wp2_with (go_at_call 94;refine r.mono ?_;rintro e C ⟨rfl,d⟩;rw[d]);go_roundg (H.length-(k+1))
      ·exact⟨k+1,by omega,rfl,by go_num,y.o,rfl⟩
      omega
     ·have m:Xq _:=a.o n (by rw[j.o,u,A,G];rfl);clear c a;go_wp2_with (go_at_call 94;refine r.mono ?_;rintro e C ⟨rfl,d⟩;rw[d]);go_ret;exact⟨aH m.o.symm,rfl⟩
    ·have m:Xq _:=a.o n (by rw[j.o,u,A];rfl);clear c a;go_wp2_with (go_at_call 94;refine r.mono ?_;rintro e C ⟨rfl,d⟩;rw[d]);go_ret;exact⟨aH m.o.symm,rfl⟩
   ·have m:Xq _:=a.o n (by rw[j.o,u];rfl);clear c a;go_wp2_with (go_at_call 94;refine r.mono ?_;rintro e C ⟨rfl,d⟩;rw[d]);go_ret;exact⟨aH m.o.symm,rfl⟩
 ·have m:Xq (se D H=true):=Tg D H (fun i p=>g.o i p (by omega));clear g;go_wp2;go_ret;exact⟨aH m.o.symm,rfl⟩
theorem CS{t:Xr}(h:mV n t S=some L):L<n.length:=by
 unfold mV at h;have:=XS h;simpa using this
def LT(l:List St)(s:oI):Prop:=s.Zbf<=1020000/\((s.Zby==3)=false->s.Zbf<l.length)
theorem OI(i:0<b.length)(j:b.length<=10000)(d:List (Xr×Pl))(a:List oI)(h:∀s∈a,LT b s)(N:Nat)(g:a.length<=N) :
  (∀s∈(gy b l m d a).1,LT b s)/\(gy b l m d a).1.length<=N+d.length:=by
 induction d generalizing a N with
 | nil =>
  rw[gy];split
  ·exact⟨by simp,by simp⟩
  ·exact⟨h,by simpa using g⟩
 | cons x r f =>
  obtain⟨t,p⟩:=x;rw[gy];split
  ·have:=f (a++[⟨1,0,p⟩]) (by intro s c;simp at c;rcases c with c | rfl;exact h s c;exact⟨by simp,fun _=>i⟩) (N+1) (by simp;omega);exact⟨this.1,by have:=this.2;simp;omega⟩
  ·split
   ·exact⟨by simp,by simp⟩
   ·next n k =>
    have e:=CS k;have:=f (a++[⟨2,n,p⟩]) (by intro s c;simp at c;rcases c with c | rfl;exact h s c;exact⟨by simp only;omega,fun _=>e⟩) (N+1) (by simp;omega);exact⟨this.1,by have:=this.2;simp;omega⟩
structure BY(l:List St)(c:nC):Prop where
 ZbB:∀n∈c.ZbB,n<l.length
 Zbr:∀n∈c.Zbr,n<=1020000
 steps:∀s∈c.steps,LT l s
theorem BY.letter{c:nC}(g:BY n c)(h:iU c S)(f:0<n.length)(i:n.length<=10000)(l:S<=1020000)(j:Nat)(p:Pl):BY n (cG c j p).2:=by
 have k:=h.steps;unfold cG;split
 ·unfold lB fc;split
  ·next b =>
   refine⟨g.ZbB,g.Zbr,?_⟩;intro s a;simp at a;rcases a with a | rfl
   ·exact g.steps s a
   ·have:=g.ZbB _ (XM b);rw[Xv b];exact⟨by simp only[Option.getD_some];omega,fun _=>this⟩
  ·split
   ·next b =>
    refine⟨g.ZbB,g.Zbr,?_⟩;intro s a;simp at a;rcases a with a | rfl
    ·exact g.steps s a
    ·have:=g.Zbr _ (XM b);rw[Xv b];exact⟨this,fun e=>by simp at e⟩
   ·exact⟨g.ZbB,g.Zbr,g.steps⟩
 ·split
  ·unfold nX;split <;> exact⟨g.ZbB,g.Zbr,g.steps⟩
  ·split
   ·refine⟨g.ZbB,?_,g.steps⟩;intro x d;simp at d;rcases d with d | rfl
    ·exact g.Zbr x d
    ·omega
   ·split
    ·refine⟨g.ZbB,g.Zbr,?_⟩;intro s a;simp[fc]at a;rcases a with a | rfl
     ·exact g.steps s a
     ·exact⟨by simp,fun _=>f⟩
    ·exact g
theorem Fo(l:0<n.length)(b:n.length<=10000)(t:Xr)(p:Pl)(f:Nat):∀(j:Nat) (c:nC) (N:Nat),BY n c->iU c (N+j)->j<=t.size->N+t.size<=1020000->BY n (iA t p f j c).2:=by
 induction f with
 | zero=>intro j c N g h k e;exact g
 | succ f o =>
  intro j c N g h k e;rw[iA];split
  ·next m =>
   have i:=h.letter (aL t j).toNat { p with ZbF:=p.ZbF+j };have d:=g.letter h l b (by omega) (aL t j).toNat { p with ZbF:=p.ZbF+j };split
   ·exact o (j+1) _ N d (by rw[<-Zbb];exact i) (by omega) e
   ·exact d
  ·exact g
theorem Fp(j:0<n.length)(d:n.length<=10000)(a:List (Xr×Pl)):∀(c:nC) (N:Nat),BY n c->iU c N->N+lW a<=1020000->BY n (rR a c).2/\iU (rR a c).2 1020000:=by
 induction a with
 | nil=>intro c N g h b;exact⟨g,h.mono (by simp[lW]at b;omega)⟩
 | cons x r k =>
  intro c N g h b;obtain⟨t,p⟩:=x;have i:lW ((t,p) :: r)=t.size+lW r:=by simp[lW]
  rw[i]at b;have e:BY n (nB t p c).2:=Fo j d t p _ 0 c N g h (XX _) (by omega);have f:=DJ t p h;rw[rR];split
  ·exact k _ (N+t.size) e f (by omega)
  ·exact⟨e,f.mono (by omega)⟩
theorem JJ(d:List (Xr×Pl))(i:Nat)(c:Xu)(h:∀n∈c,n<b.length):∀n∈(dN b l m i d c).2,n<b.length:=by
 induction d generalizing i c with
 | nil=>exact h
 | cons x r f =>
  obtain⟨t,p⟩:=x;rw[dN];split
  ·exact h
  ·split
   ·exact h
   ·next n e =>
    split
    ·exact h
    ·exact f (i+1) (c++[n]) (by intro g a;simp at a;rcases a with a | rfl;exact h g a;exact CS e)
theorem za4(d:iV b)(o:w<b.length)(k:CD b[w]):L7 b (lY b w b[w]).1:=by
 have l:0<b.length:=by omega
 have q:=d.prfs w o;have r:=k.size;have a:(∀s∈(lY b w b[w]).1,LT b s)/\(lY b w b[w]).1.length<=1100000:=by
  unfold lY;split
  ·unfold mM Gb;have f:=Ga b w b[w] d.len q;have g:BY b ⟨(dN b w b[w].ZbC 1 (b[w].Zbp.drop 1) (aM b w)).2,[],[],0,false⟩:=⟨JJ b w b[w].ZbC _ 1 _ (fun n p=>GL p),by simp,by simp⟩;generalize dN b w b[w].ZbC 1 (b[w].Zbp.drop 1) (aM b w)=m at *;obtain⟨⟨c,e⟩,j⟩:=m;simp only at f g ⊢;have xG:BY b (Kv e (b[w].Zbp.drop c) ⟨j,[],[],0,false⟩).2/\iU (Kv e (b[w].Zbp.drop c) ⟨j,[],[],0,false⟩).2 1020000:=by
    unfold Kv;split
    ·exact Fp l d.len _ _ 20000 g f (by have:=IK b[w].Zbp c;omega)
    ·exact⟨g,f.mono (by omega)⟩
   generalize Kv e (b[w].Zbp.drop c) ⟨j,[],[],0,false⟩=R at *;unfold we;split
   ·split
    ·split
     ·exact⟨by simp,by simp⟩
     ·exact⟨xG.1.steps,by have:=xG.2.steps;simp only;omega⟩
    ·exact⟨by simp,by simp⟩
   ·exact⟨by simp,by simp⟩
  ·have:=OI b w b[w].ZbC l d.len b[w].Zbp [] (by simp) 0 (by simp);exact⟨this.1,by have:=this.2;omega⟩
 exact⟨a.2,fun s i=>by have:=(a.1 s i).1;omega,fun s i=>(a.1 s i).2⟩
def qe(Zbz:Xr)(L:List Rw)(steps:List oI)(f:sB):Rw :=
  if(f.1==0)=true then
    (match Lz steps with
     | some u=>⟨Zbz,3,0,((steps[u]?).map oI.at_).getD mD⟩
     | none=>if se L steps=true then⟨Zbz,5,0,mD⟩ else⟨Zbz,4,0,mD⟩)
  else⟨Zbz,2,f.1,f.2⟩
def jU(l:List St)(n:Nat)(s:St)(L:List Rw):Rw :=
  qe s.Zbz L (lY l n s).1 (if(Lz (lY l n s).1).isNone=true/\((lY l n s).2.1==0)=true then jb l n s (lY l n s).1 else(lY l n s).2)
theorem fz{x:Rw}(h:T.heap[S]?=some (.cells (pm x).toArray 38)) :
    T.cell? ⟨S,0,none⟩=some (string x.Zbz)/\T.cell? ⟨S,1,none⟩=some (int i64 x.Zbk)/\T.cell? ⟨S,2,none⟩=some (int i64 x.why)/\T.cell? ⟨S,3,none⟩=some (string x.at_.ZbD)/\T.cell? ⟨S,4,none⟩=some (int i64 x.at_.ZbE)/\T.cell? ⟨S,5,none⟩=some (int i64 x.at_.ZbF):=by
  refine⟨?_,?_,?_,?_,?_,?_⟩ <;> (rw[ab h];rfl)
theorem C4(K:aa [] T g)(a:T.heap.size<=S)(b c d e f i:Value):aa [] T ((((((g.setCell ⟨S,0,none⟩ b).setCell ⟨S,1,none⟩ c).setCell ⟨S,2,none⟩ d).setCell ⟨S,3,none⟩ e).setCell ⟨S,4,none⟩ f).setCell ⟨S,5,none⟩ i) :=
  (((((K.setCell (XK a) _).setCell (XK a) _).setCell (XK a) _).setCell (XK a) _).setCell (XK a) _).setCell (XK a) _
set_option maxRecDepth 100000
theorem Oi(a:List St)(H K:Nat->Hd)(L:List Rw)(t:World)(h:mK t o f a H I L)(ok:iV a)(ha:l<a.length)(aS:CD a[l])(av:ji t w a a.length K) :
    Calls prog 113 #[pointer (some ⟨o,f,none⟩),int i64 l,slice (some ⟨w,0,none⟩) a.length a.length] t fun e w' =>
      e=returned (agg (pm (jU a l a[l] L)).toArray)/\aa [] t w':=by
  have an:=za4 a l ok ha aS;obtain⟨W,hW⟩:∃W,W=t.alloc (.cells #[string ⟨#[]⟩,int i64 0,int i64 0,string ⟨#[]⟩,int i64 0,int i64 0] 38):=⟨_,rfl⟩
  have kW:=dx hW.symm;have BF:W.heap[t.heap.size]?=some (.cells (pm tO).toArray 38):=by rw[hW];exact XD _ _
  have HW:Xq _:=hW.symm;clear hW;have Y:Xq (jU a l a[l] L=qe a[l].Zbz L (lY a l a[l]).1 (if(Lz (lY a l a[l]).1).isNone=true/\((lY a l a[l]).2.1==0)=true then jb a l a[l] (lY a l a[l]).1 else(lY a l a[l]).2)):=rfl;have RD:=fun(w':World) (k:aa [] t w')=>OL o f l a H w' (h.Zbj k).recd ha ok aS;have PL:=fun(hd:Hd) (w':World) (k:aa [] t w') (o':aD w' hd (iO (lY a l a[l]).1))=>Qx o f w l a H K hd (lY a l a[l]).1 w' (h.Zbj k).recd ok ha (av.Zbj k) o' an;have al:=an.len;have aq:Xq _:=RD;have ap:Xq _:=PL;clear RD PL an;generalize lY a l a[l]=PF at *;obtain⟨b,M,G⟩:=PF;simp only at Y aq ap al;go_enter func113,ntmps113;go_upto_region 1 with fail
  rw[HW.o];go_upto_region 2 with (go_at_call 96;refine(bu o f l a H _ (by exact(h.Zbj kW).recd) ha).mono ?_;rintro e i ⟨rfl,k1⟩;unfold du)
  obtain⟨W2,ac⟩:∃W2,W2=i.alloc (.cells #[string a[l].Zbz,int i64 0,int i64 0,string ⟨#[]⟩,int i64 0,int i64 0] 38):=⟨_,rfl⟩
  have k2:aa [] W W2:=by rw[ac];exact k1.alloc _
  have BR:W2.heap[i.heap.size]?=some (.cells (pm ⟨a[l].Zbz,0,0,mD⟩).toArray 38):=by rw[ac];exact XD _ _
  have c:t.heap.size<i.heap.size:=by have:=k1.size;have:=ah BF;omega
  rw[<-ac];clear ac;have K2:=kW.trans k2;have aT:=k2.get BF (by simp);go_upto_region 3 with (go_at_call 99;refine(aq.o _ (by exact K2)).mono ?_;rintro e w3 ⟨hd,rfl,ai,a5,k3⟩;unfold jh)
  obtain⟨W4,T⟩:∃W4,W4=w3.alloc (.cells #[int i64 M,string G.ZbD,int i64 G.ZbE,int i64 G.ZbF] 165):=⟨_,rfl⟩
  have k4:aa [] W2 W4:=by rw[T];exact k3.alloc _
  have B9:W4.heap[w3.heap.size]?=some (.cells (JZ (M,G)) 165):=by rw[T];exact XD _ _
  have O:aD W4 hd (iO b):=by rw[T];exact ai.Zbo (fun x hx=>(bH.alloc _).block x (ai.lt hx) (by simp))
  rw[<-T];clear T;have a6:i.heap.size<w3.heap.size:=by have:=k3.size;have:=ah BR;omega
  have K4:=K2.trans k4;have af:=k4.get BR (by simp);have ad:=k4.get aT (by simp);have FU:=xw hd b W4 O (by omega);cases hu:Lz b with
  | some u =>
    have HU:Xq _:=hu;rw[hu]at FU;simp only[iu]at FU;have az:u<b.length:=by
      have:=XS hu;simpa using this
    have a2:(u:Int) ≥ 0:=(by omega);have a3:(u:Int)<b.length:=(by omega);clear hu;have Z:=K4;have P:=B9;have j:=af;have z:=ad;obtain⟨f0,f1,f2,f3⟩:=kI P;obtain⟨m,n,p,q,r,s⟩:=fz j;have yr:=zcW j;simp only[mD]at m n p q r s;cases U:(M==0)
    · have ax:(M != 0)=true:=by simp[bne,U]
      have R:Xq (jU a l a[l] L=⟨a[l].Zbz,2,M,G⟩):=cm (by rw[Y.o,HU.o,U];simp[qe,U]);clear Y;(go_upto_region 4 with (go_at_call 160;refine FU.mono ?_;rintro e wu ⟨rfl,J⟩;rw[J]));(go_upto_region 16 with fail);obtain⟨X,g⟩:∃X,X=((((W4.setCell ⟨i.heap.size,1,none⟩ (int i64 2)).setCell ⟨i.heap.size,2,none⟩ (int i64 M)).setCell ⟨i.heap.size,3,none⟩ (string G.ZbD)).setCell ⟨i.heap.size,4,none⟩ (int i64 G.ZbE)).setCell ⟨i.heap.size,5,none⟩ (int i64 G.ZbF):=⟨_,rfl⟩
      have Q:X.heap[i.heap.size]?=some (.cells (pm ⟨a[l].Zbz,2,M,G⟩).toArray 38):=by
        rw[g];rw[ae (ae (ae (ae (ae j _ _) _ _) _ _) _ _) _ _];rfl
      have S:aa [] t X:=(by rw[g];exact(((((Z.setCell (XK (Ys c)) _).setCell (XK (Ys c)) _).setCell (XK (Ys c)) _).setCell (XK (Ys c)) _).setCell (XK (Ys c)) _));have d:X.heap[t.heap.size]?=some (.cells (pm tO).toArray 38):=by
        rw[g];rw[XN _ _ _ _ (by simp;omega)];rw[XN _ _ _ _ (by simp;omega)];rw[XN _ _ _ _ (by simp;omega)];rw[XN _ _ _ _ (by simp;omega)];rw[XN _ _ _ _ (by simp;omega)];exact z
      rw[<-g];clear g m n p q r s yr;obtain⟨m,n,p,q,r,s⟩:=fz Q;obtain⟨A,B,C,D,E,F⟩:=fz d;have ys:=zcW d;simp only[tO,mD]at m n p q r s A B C D E F;go_wp2;exact XG (v:=agg (pm ⟨a[l].Zbz,2,M,G⟩).toArray) (by simp[results,results113,go_sem,A,B,C,D,E,F,pm]) rfl ⟨by rw[R.o],C4 S (Xy _) _ _ _ _ _ _⟩
    · have ax:(M != 0)=false:=by simp[bne,U]
      obtain⟨gp,ep,ar,ag,-,-,d2,d3,d4⟩:=O.step u az;have R:Xq (jU a l a[l] L=⟨a[l].Zbz,3,0,b[u].at_⟩):=cm (by rw[Y.o,HU.o,U];simp[qe,U,HU.o,az]);obtain⟨ao,a4⟩:=hd;simp only at ep ar ag;subst ep;clear Y;generalize b[u]=st at *;(go_upto_region 4 with (go_at_call 160;refine FU.mono ?_;rintro e wu ⟨rfl,J⟩;rw[J]));(go_upto_region 16 with fail);obtain⟨X,g⟩:∃X,X=(((W4.setCell ⟨i.heap.size,1,none⟩ (int i64 3)).setCell ⟨i.heap.size,3,none⟩ (string st.at_.ZbD)).setCell ⟨i.heap.size,4,none⟩ (int i64 st.at_.ZbE)).setCell ⟨i.heap.size,5,none⟩ (int i64 st.at_.ZbF):=⟨_,rfl⟩
      have Q:X.heap[i.heap.size]?=some (.cells (pm ⟨a[l].Zbz,3,0,st.at_⟩).toArray 38):=by
        rw[g];rw[ae (ae (ae (ae j _ _) _ _) _ _) _ _];rfl
      have S:aa [] t X:=(by rw[g];exact((((Z.setCell (XK (Ys c)) _).setCell (XK (Ys c)) _).setCell (XK (Ys c)) _).setCell (XK (Ys c)) _));have d:X.heap[t.heap.size]?=some (.cells (pm tO).toArray 38):=by
        rw[g];rw[XN _ _ _ _ (by simp;omega)];rw[XN _ _ _ _ (by simp;omega)];rw[XN _ _ _ _ (by simp;omega)];rw[XN _ _ _ _ (by simp;omega)];exact z
      rw[<-g];clear g m n p q r s yr;obtain⟨m,n,p,q,r,s⟩:=fz Q;obtain⟨A,B,C,D,E,F⟩:=fz d;have ys:=zcW d;simp only[tO,mD]at m n p q r s A B C D E F;go_wp2;exact XG (v:=agg (pm ⟨a[l].Zbz,3,0,st.at_⟩).toArray) (by simp[results,results113,go_sem,A,B,C,D,E,F,pm]) rfl ⟨by rw[R.o],C4 S (Xy _) _ _ _ _ _ _⟩
  | none =>
    have HU:Xq _:=hu;rw[hu]at FU;simp only[iu]at FU;clear hu;cases U:(M==0)
    · have ax:(M != 0)=true:=by simp[bne,U]
      have R:Xq (jU a l a[l] L=⟨a[l].Zbz,2,M,G⟩):=cm (by rw[Y.o,HU.o,U];simp[qe,U]);have Z:=K4;have P:=B9;have j:=af;have z:=ad;obtain⟨f0,f1,f2,f3⟩:=kI P;obtain⟨m,n,p,q,r,s⟩:=fz j;have yr:=zcW j;simp only[mD]at m n p q r s;clear Y;(go_upto_region 4 with (go_at_call 160;refine FU.mono ?_;rintro e wu ⟨rfl,J⟩;rw[J]));(go_upto_region 16 with fail);obtain⟨X,g⟩:∃X,X=((((W4.setCell ⟨i.heap.size,1,none⟩ (int i64 2)).setCell ⟨i.heap.size,2,none⟩ (int i64 M)).setCell ⟨i.heap.size,3,none⟩ (string G.ZbD)).setCell ⟨i.heap.size,4,none⟩ (int i64 G.ZbE)).setCell ⟨i.heap.size,5,none⟩ (int i64 G.ZbF):=⟨_,rfl⟩
      have Q:X.heap[i.heap.size]?=some (.cells (pm ⟨a[l].Zbz,2,M,G⟩).toArray 38):=by
        rw[g];rw[ae (ae (ae (ae (ae j _ _) _ _) _ _) _ _) _ _];rfl
      have S:aa [] t X:=(by rw[g];exact(((((Z.setCell (XK (Ys c)) _).setCell (XK (Ys c)) _).setCell (XK (Ys c)) _).setCell (XK (Ys c)) _).setCell (XK (Ys c)) _));have d:X.heap[t.heap.size]?=some (.cells (pm tO).toArray 38):=by
        rw[g];rw[XN _ _ _ _ (by simp;omega)];rw[XN _ _ _ _ (by simp;omega)];rw[XN _ _ _ _ (by simp;omega)];rw[XN _ _ _ _ (by simp;omega)];rw[XN _ _ _ _ (by simp;omega)];exact z
      rw[<-g];clear g m n p q r s yr;obtain⟨m,n,p,q,r,s⟩:=fz Q;obtain⟨A,B,C,D,E,F⟩:=fz d;have ys:=zcW d;simp only[tO,mD]at m n p q r s A B C D E F;go_wp2;exact XG (v:=agg (pm ⟨a[l].Zbz,2,M,G⟩).toArray) (by simp[results,results113,go_sem,A,B,C,D,E,F,pm]) rfl ⟨by rw[R.o],C4 S (Xy _) _ _ _ _ _ _⟩
    · have N:Xq (jU a l a[l] L=qe a[l].Zbz L b (jb a l a[l] b)):=by show _=_;rw[Y.o,HU.o,U];simp
      obtain⟨f0,f1,f2,f3⟩:=kI B9;clear Y;generalize jb a l a[l] b=y at *;(go_upto_region 4 with (go_at_call 160;refine FU.mono ?_;rintro e wu ⟨rfl,J⟩;rw[J]));(go_upto_region 7 with (go_at_call 161;refine(ap.o hd _ (by exact K4) (by exact O)).mono ?_;rintro e w5 ⟨rfl,k5⟩;unfold jh;obtain⟨t0,t1,t2,t3⟩:=kI (k5.get B9 (by simp));have yt:=zcW (k5.get B9 (by simp))));obtain⟨V,hV⟩:∃V,V=(((w5.setCell ⟨w3.heap.size,0,none⟩ (int i64 y.1)).setCell ⟨w3.heap.size,1,none⟩ (string y.2.ZbD)).setCell ⟨w3.heap.size,2,none⟩ (int i64 y.2.ZbE)).setCell ⟨w3.heap.size,3,none⟩ (int i64 y.2.ZbF):=⟨_,rfl⟩
      have P:V.heap[w3.heap.size]?=some (.cells (JZ y) 165):=by
        rw[hV,ae (ae (ae (ae (k5.get B9 (by simp)) _ _) _ _) _ _)];rfl
      have k9:aa [w3.heap.size] w5 V:=(by rw[hV];exact kJ _ _ _ _);have Z:aa [] t V:=(by rw[hV];exact mN (K4.trans k5) (by omega) _ _ _ _);have j:=k9.get (k5.get af (by simp)) (by simp;omega);have z:=k9.get (k5.get ad (by simp)) (by simp;omega);have a0:aD V hd (iO b):=(O.Zbo (w':=w5) (fun x hx=>k5.block x (O.lt hx) (by simp))).Zbo (fun x hx=>k9.block x (XB (O.lt hx) k5.size) (by simp;rintro rfl;have:=ai.lt hx;omega));rw[<-hV];clear hV t0 t1 t2 t3 yt;clear f0 f1 f2 f3;obtain⟨f0,f1,f2,f3⟩:=kI P;obtain⟨m,n,p,q,r,s⟩:=fz j;have yr:=zcW j;simp only[mD]at m n p q r s;cases hf:(y.1==0)
      · have a1:(y.1 != 0)=true:=by simp[bne,hf]
        have R:Xq (jU a l a[l] L=⟨a[l].Zbz,2,y.1,y.2⟩):=cm (by rw[N.o];simp[qe,hf]);clear N;(go_upto_region 16 with fail);obtain⟨X,g⟩:∃X,X=((((V.setCell ⟨i.heap.size,1,none⟩ (int i64 2)).setCell ⟨i.heap.size,2,none⟩ (int i64 y.1)).setCell ⟨i.heap.size,3,none⟩ (string y.2.ZbD)).setCell ⟨i.heap.size,4,none⟩ (int i64 y.2.ZbE)).setCell ⟨i.heap.size,5,none⟩ (int i64 y.2.ZbF):=⟨_,rfl⟩
        have Q:X.heap[i.heap.size]?=some (.cells (pm ⟨a[l].Zbz,2,y.1,y.2⟩).toArray 38):=by
          rw[g];rw[ae (ae (ae (ae (ae j _ _) _ _) _ _) _ _) _ _];rfl
        have S:aa [] t X:=(by rw[g];exact(((((Z.setCell (XK (Ys c)) _).setCell (XK (Ys c)) _).setCell (XK (Ys c)) _).setCell (XK (Ys c)) _).setCell (XK (Ys c)) _));have d:X.heap[t.heap.size]?=some (.cells (pm tO).toArray 38):=by
          rw[g];rw[XN _ _ _ _ (by simp;omega)];rw[XN _ _ _ _ (by simp;omega)];rw[XN _ _ _ _ (by simp;omega)];rw[XN _ _ _ _ (by simp;omega)];rw[XN _ _ _ _ (by simp;omega)];exact z
        rw[<-g];clear g m n p q r s yr;obtain⟨m,n,p,q,r,s⟩:=fz Q;obtain⟨A,B,C,D,E,F⟩:=fz d;have ys:=zcW d;simp only[tO,mD]at m n p q r s A B C D E F;go_wp2;exact XG (v:=agg (pm ⟨a[l].Zbz,2,y.1,y.2⟩).toArray) (by simp[results,results113,go_sem,A,B,C,D,E,F,pm]) rfl ⟨by rw[R.o],C4 S (Xy _) _ _ _ _ _ _⟩
      · have a1:(y.1 != 0)=false:=by simp[bne,hf]
        have RE:=Tf o f a H I L hd b V (h.Zbj Z) a0 (by omega);cases hr:se L b
        · have R:Xq (jU a l a[l] L=⟨a[l].Zbz,4,0,mD⟩):=by show _=_;rw[N.o];simp[qe,hf,HU.o,hr]
          rw[hr]at RE;clear N;(go_upto_region 6 with (go_at_call 162;refine RE.mono ?_;rintro e wv ⟨rfl,am⟩;rw[am]));(go_upto_region 16 with fail);obtain⟨X,g⟩:∃X,X=V.setCell ⟨i.heap.size,1,none⟩ (int i64 4):=⟨_,rfl⟩
          have Q:X.heap[i.heap.size]?=some (.cells (pm ⟨a[l].Zbz,4,0,mD⟩).toArray 38):=by
            rw[g];rw[ae j _ _];rfl
          have S:aa [] t X:=(by rw[g];exact(Z.setCell (XK (Ys c)) _));have d:X.heap[t.heap.size]?=some (.cells (pm tO).toArray 38):=by
            rw[g];rw[XN _ _ _ _ (by simp;omega)];exact z
          rw[<-g];clear g m n p q r s yr;obtain⟨m,n,p,q,r,s⟩:=fz Q;obtain⟨A,B,C,D,E,F⟩:=fz d;have ys:=zcW d;simp only[tO,mD]at m n p q r s A B C D E F;go_wp2;exact XG (v:=agg (pm ⟨a[l].Zbz,4,0,mD⟩).toArray) (by simp[results,results113,go_sem,A,B,C,D,E,F,pm,mD]) rfl ⟨by rw[R.o],C4 S (Xy _) _ _ _ _ _ _⟩
        · have R:Xq (jU a l a[l] L=⟨a[l].Zbz,5,0,mD⟩):=by show _=_;rw[N.o];simp[qe,hf,HU.o,hr]
          rw[hr]at RE;clear N;(go_upto_region 15 with (go_at_call 162;refine RE.mono ?_;rintro e wv ⟨rfl,am⟩;rw[am]));(go_upto_region 16 with fail);obtain⟨X,g⟩:∃X,X=V.setCell ⟨i.heap.size,1,none⟩ (int i64 5):=⟨_,rfl⟩
          have Q:X.heap[i.heap.size]?=some (.cells (pm ⟨a[l].Zbz,5,0,mD⟩).toArray 38):=by
            rw[g];rw[ae j _ _];rfl
          have S:aa [] t X:=(by rw[g];exact(Z.setCell (XK (Ys c)) _));have d:X.heap[t.heap.size]?=some (.cells (pm tO).toArray 38):=by
            rw[g];rw[XN _ _ _ _ (by simp;omega)];exact z
          rw[<-g];clear g m n p q r s yr;obtain⟨m,n,p,q,r,s⟩:=fz Q;obtain⟨A,B,C,D,E,F⟩:=fz d;have ys:=zcW d;simp only[tO,mD]at m n p q r s A B C D E F;go_wp2;exact XG (v:=agg (pm ⟨a[l].Zbz,5,0,mD⟩).toArray) (by simp[results,results113,go_sem,A,B,C,D,E,F,pm,mD]) rfl ⟨by rw[R.o],C4 S (Xy _) _ _ _ _ _ _⟩
def EU(l:List St)(n:Nat)(prev:List Rw):Rw:=match l[n]? with
 | some s=>if(s.Zby==4)=true then⟨s.Zbz,1,0,mD⟩ else if(s.Zby==5)=true then jU l n s prev else tO
 | none=>tO
def mt(l:List St):Nat->List Rw
 | 0=>[]
 | k+1=>mt l k++[EU l k (mt l k)]
theorem vD(k:Nat):(mt b k).length=k:=by
 induction k with
 | zero=>rfl
 | succ k a=>simp[mt,a]
def lr(l:List St)(k:Nat):List Rw:=mt l k++List.replicate (l.length-k) tO
theorem AH(h:w<=b.length):(lr b w).length=b.length:=by simp[lr,vD];omega
theorem ON(h:w<b.length):lr b (w+1)=(lr b w).set w (EU b w (mt b w)):=by
 unfold lr;have e:b.length-w=(b.length-(w+1))+1:=by omega
 rw[e,Zag,mt];have a:=vD b w;rw[Zr _ _ (by omega),a,YA,ZaG,Y2];rfl
theorem Sy:lr b b.length=mt b b.length:=by simp[lr]
theorem Sz(h:w<b.length):(lr b w).set w tO=lr b w:=by
 unfold lr;have e:b.length-w=(b.length-(w+1))+1:=by omega
 have a:=vD b w;rw[e,Zag,Zr _ _ (by omega),a,YA,ZaG]
theorem Ui:qm (x++List.replicate I tO) w=qm x w:=by
 unfold qm;rw[Xw,Xw];by_cases h:w<x.length
 ·rw[XP h]
 ·rw[XO (by omega),Yb (l:=x) (by omega),Y4];split <;> rfl
theorem Iw(h:∀n,qm d n=qm z8 n)(a:List oI):se d a=se z8 a:=by
 unfold se;simp only[h]
theorem EC(h:∀n,qm d n=qm z8 n)(l:List St)(n:Nat)(s:St):jU l n s d=jU l n s z8:=by
 unfold jU qe;rw[Iw h]
theorem Ka(s:St)(k:Nat):jU b w s (lr b k)=jU b w s (mt b k):=EC (fun _=>Ui _ _ _) b w s
theorem qJ(A M B:List Value)(i j:Nat)(v:Value)(a:i=A.length+j)(b:j<M.length):(A++(M++B)).set i v=A++(M.set j v++B):=by
 subst a;rw[Zr _ _ (by omega),Nat.add_sub_cancel_left,Zab _ _ b]
theorem Du(a:w<x.length):mF x=mF (x.take w)++(pm x[w]++mF (x.drop (w+1))):=by
 have e:x=x.take w++(x[w] :: x.drop (w+1)):=by rw[<-X0 a,Z5]
 conv=>lhs;rw[e]
 unfold mF;rw[YZ,Yz]
theorem Wn(a:w<x.length)(r:Rw) :
  (((((((mF x).set (w*6) (string r.Zbz)).set (w*6+1) (int i64 r.Zbk)).set (w*6+2) (int i64 r.why)).set (w*6+3) (string r.at_.ZbD)).set (w*6+4) (int i64 r.at_.ZbE)).set (w*6+5) (int i64 r.at_.ZbF))=mF (x.set w r):=by
 have c:(mF (x.take w)).length=w*6:=by rw[IG,YL];congr 1;omega
 have b:mF (x.set w r)=mF (x.take w)++(pm r++mF (x.drop (w+1))):=by
  rw[Du (x.set w r) w (by simpa using a)];simp[List.take_set,List.drop_set];rw[List.set_eq_of_length_le (by simp;omega)]
 rw[b,Du x w a,pm,qJ _ _ _ _ 0 _ (by omega) (by simp),qJ _ _ _ _ 1 _ (by omega) (by simp),qJ _ _ _ _ 2 _ (by omega) (by simp),qJ _ _ _ _ 3 _ (by omega) (by simp),qJ _ _ _ _ 4 _ (by omega) (by simp),qJ _ _ _ _ 5 _ (by omega) (by simp)];rfl
theorem aa.wide{S:Xu}(k:aa [] T g):aa S T g:=k.mono (by simp)
def IJ(w:World)(g k:Nat)(r:Rw):World :=
 (((((w.setCell ⟨g,k*6,none⟩ (string r.Zbz)).setCell ⟨g,k*6+1,none⟩ (int i64 r.Zbk)).setCell ⟨g,k*6+2,none⟩ (int i64 r.why)).setCell ⟨g,k*6+3,none⟩ (string r.at_.ZbD)).setCell ⟨g,k*6+4,none⟩ (int i64 r.at_.ZbE)).setCell ⟨g,k*6+5,none⟩ (int i64 r.at_.ZbF)
theorem vF(r:Rw):aa [I] v (IJ v I w r) :=
 ((((((aa.refl [I] v).sl1 _).sl1 _).sl1 _).sl1 _).sl1 _).sl1 _
theorem mK.store(h:mK T S L n y a d)(c:S≠a)(i:∀x,eG y x->x≠a)(k:Nat)(j:k<d.length)(r:Rw):mK (IJ T a k r) S L n y a (d.set k r):=by
 have e:=vF T a k r;obtain⟨b,t,f,g⟩:=h.cell;refine⟨h.recd.Zbw e (by simpa using c) (fun x l=>by simpa using i x l),⟨b,t,e.get f (by simpa using c),by rw[Yq];exact g⟩,?_⟩;unfold IJ;rw[ae (ae (ae (ae (ae (ae h.arr _ _) _ _) _ _) _ _) _ _)];simp only[List.setIfInBounds_toArray];rw[Wn d k j r]
def yO(l:List St)(H:Nat->Hd):Nat->Hd:=fun i=>if i=6∨(10<=i/\i<10+2*l.length) then H i else⟨none,0⟩
theorem qT(h:w=6∨(10<=w/\w<10+2*b.length)):yO b N w=N w:=XA h
theorem iY.trim(h:iY T n y):iY T n (yO n y)/\∀k,eG (yO n y) k->k<T.heap.size/\eG y k:=by
 refine⟨⟨?_,fun i s c=>?_,fun i s c=>?_⟩,?_⟩
 ·have e:oG n (yO n y)=oG n y:=by
   rw[<-yK n y (fun i=>if i<10+2*n.length then y i else⟨none,0⟩) (fun j f=>XA f)];apply Br;intro j f;by_cases b:j<10+2*n.length
   ·simp only[if_pos b];exact qT n y j (XK ⟨f,b⟩)
   ·simp only[if_neg b];exact Xz (by omega)
  rw[qT n y 6 (XQ rfl)];unfold jY;rw[e];exact h.ZbH
 ·have a:i<n.length:=(XL.1 c).1;rw[qT n y (10+2*i) (by omega)];exact h.syms i s c
 ·have a:i<n.length:=(XL.1 c).1;rw[qT n y (11+2*i) (by omega)];exact h.prfs i s c
 ·rintro k ⟨i,a⟩;by_cases d:i=6∨(10<=i/\i<10+2*n.length)
  ·rw[qT n y i d]at a;refine⟨?_,⟨i,a⟩⟩;rcases d with rfl | ⟨g,l⟩
   ·exact h.ZbH.lt a
   ·by_cases m:(i-10) % 2=0
    ·have e:i=10+2*((i-10) / 2):=(by omega);rw[e]at a;have b:(i-10) / 2<n.length:=by omega
     exact(h.syms _ _ (Xv b)).lt a
    ·have e:i=11+2*((i-10) / 2):=(by omega);rw[e]at a;have b:(i-10) / 2<n.length:=by omega
     exact(h.prfs _ _ (Xv b)).lt a
  ·have e:yO n y i=⟨none,0⟩:=Xz d;rw[e]at a;simp[Hd.Zbx]at a
theorem wB(h:mK v M o b N f (lr b 0))(ok:iV b)(ac:∀i (hi:i<b.length),CD b[i])(hb:M≠f)(hg:∀x,eG N x->x≠f) :
  Calls prog 80 #[pointer (some ⟨M,o,none⟩)] v fun e a=>e=returned (tuple #[])/\mK a M o b N f (mt b b.length)/\aa [f] v a:=by
 have an:=h.recd.lt;have ar:=ah h.arr;have ag:=ok.len;go_enter func80,ntmps80;go_wp2_with (go_at_call 112;refine(vS M o b N _ (by exact h.recd) ok).mono ?_;rintro e w1 ⟨W,K,rfl,A1,aq,Z,k1⟩)
 go_loopg [3] b.length (fun gk iv wr=>∃(k:Nat),k<=b.length/\gk=b.length-k/\iv=int i64 k/\mK wr M o b N f (lr b k)/\ji wr W b b.length K/\aa [f] v wr)
 ·exact⟨0,by omega,by omega,rfl,h.Zbj k1,A1,k1.wide⟩
 obtain⟨k,hk,ap,rfl,y,hA,hK⟩:=hrel;have m:Xq _:=AH b k hk;have c2:=y.at2;rw[m.o]at c2;by_cases d:k<b.length
 ·have j:Xq (EU b k (mt b k)=if(b[k].Zby==4)=true then⟨b[k].Zbz,1,0,mD⟩ else if(b[k].Zby==5)=true then jU b k b[k] (lr b k) else tO):=by
   show _=_;unfold EU;rw[Xv d,Ka]
  have g:Xq _:=ON b k d;go_upto_region 5 with (go_at_call 96;refine(bu M o k b N _ (by exact y.recd) d).mono ?_;rintro e R ⟨rfl,k3⟩;unfold du)
  obtain⟨X,Q⟩:∃X,X=R.alloc (.cells #[int i64 b[k].Zby,string b[k].Zbz,slice (N (10+2*k)).ao b[k].Zbe.length (N (10+2*k)).cap,slice (N (11+2*k)).ao b[k].Zbp.length (N (11+2*k)).cap,string b[k].ZbC.ZbD,int i64 b[k].ZbC.ZbE,int i64 b[k].ZbC.ZbF,int i64 b[k].til] 158):=⟨_,rfl⟩
  have kX:aa [] wr X:=by rw[Q];exact k3.alloc _
  have BX:=dC Q.symm;rw[<-Q];clear Q;obtain⟨m0,m1,-⟩:=yY BX;have c:=y.Zbj kX;have O:=hA.Zbj kX;have V:=hK.trans kX.wide;have ax:wr.heap.size<=R.heap.size:=k3.size;have af:=ah y.arr;have ad:=y.recd.lt;have u:W≠f:=by omega
  have t:∀n x,(K n).Zbx=some x->x∉[f]:=fun n x hx=>by have:=Z n x hx;simp;omega
  have w:=c.at2;rw[m.o]at w;have z:k<(lr b k).length:=by rw[m.o];exact d
  obtain⟨F,G,H,I,J,L⟩:=c.row k z;have S:=zcW c.arr;have av:(k:Int)<b.length:=by omega
  have ai:R.heap.size≠f:=by omega
  have al:f≠R.heap.size:=by omega
  have am:f≠M:=fun e=>hb e.symm;clear c2;generalize (lr b k)[k]=l at *;cases P:(b[k].Zby==4)
  ·cases Y:(b[k].Zby==5)
   ·have D:Xq (lr b (k+1)=lr b k):=by
     show _=_;rw[g.o,j.o,P,Y];simp only[Bool.false_eq_true,if_false];exact Sz b k d
    clear j g;go_wp2;go_roundg (b.length-(k+1))
    ·exact⟨k+1,by omega,rfl,by go_num,by rw[D.o];exact c,O,V⟩
    omega
   ·have D:Xq (lr b (k+1)=(lr b k).set k (jU b k b[k] (lr b k))):=(by show _=_;rw[g.o,j.o,P,Y];rfl);have JA:=fun(a:World) (q:aa [] X a)=>Oi M o k f W b N K (lr b k) a (c.Zbj q) ok d (ac k d) (O.Zbj q);have E:Xq _:=JA;have T:Xq (∀a,aa [] X a->a.cell? ⟨M,o+2,none⟩=some (slice (some ⟨f,0,none⟩) b.length b.length)):=by
     intro a q;have:=(c.Zbj q).at2;rw[m.o]at this;exact this
    have U:Xq (∀a,aa [] X a->a.cell? ⟨f,k*6,none⟩=some (string l.Zbz)/\a.cell? ⟨f,k*6+1,none⟩=some (int i64 l.Zbk)/\a.cell? ⟨f,k*6+2,none⟩=some (int i64 l.why)/\a.cell? ⟨f,k*6+3,none⟩=some (string l.at_.ZbD)/\a.cell? ⟨f,k*6+4,none⟩=some (int i64 l.at_.ZbE)/\a.cell? ⟨f,k*6+5,none⟩=some (int i64 l.at_.ZbF)/\∀n,a.frozen? ⟨f,n,none⟩=false):=by
     intro a q;have A:=q.get c.arr (by simp);refine⟨?_,?_,?_,?_,?_,?_,fun n=>zcW A n⟩
     ·rw[ab A,<-ab c.arr];exact F
     ·rw[ab A,<-ab c.arr];exact G
     ·rw[ab A,<-ab c.arr];exact H
     ·rw[ab A,<-ab c.arr];exact I
     ·rw[ab A,<-ab c.arr];exact J
     ·rw[ab A,<-ab c.arr];exact L
    unfold pm at E;clear j g JA F G H I J L S;generalize jU b k b[k] (lr b k)=r at *;(go_upto_region 8 with fail);go_region_held3 (fun a=>a.cell? ⟨M,o+2,none⟩=some (slice (some ⟨f,0,none⟩) b.length b.length)) (go_keep) (first | (go_at_call 113;refine(E.o _ (by exact(aa.refl [] X).drew)).mono ?_;rintro e w5 ⟨rfl,k5⟩;have x0:=T.o w5 ((aa.refl [] X).drew.trans k5);obtain⟨F,G,H,I,J,L,S⟩:=U.o w5 ((aa.refl [] X).drew.trans k5)))
    all_goals
     have kk:=((aa.refl [] X).drew.trans k5);have s:=(c.Zbj kk).store hb hg k z r;have p:=vF w5 f k r;have B:=(O.Zbj kk).Zbw p (by simpa using u) t;have C:=(V.trans kk.wide).trans p;rw[<-D.o]at s;unfold IJ at s p B C;clear m0 m1 w F G H I J L S x0;go_wp2;go_roundg (b.length-(k+1))
     ·exact⟨k+1,by omega,rfl,by go_num,s,B,C⟩
     omega
  ·have Y:(b[k].Zby==5)=false:=(by have:=ZR P;rw[this];rfl);have D:Xq (lr b (k+1)=(lr b k).set k ⟨b[k].Zbz,1,0,mD⟩):=cm (by rw[g.o,j.o,P];rfl);clear j g;(go_upto_region 6 with fail);go_region
   all_goals
    have s:=c.store hb hg k z ⟨b[k].Zbz,1,0,mD⟩;have p:=vF X f k ⟨b[k].Zbz,1,0,mD⟩;have B:=O.Zbw p (by simpa using u) t;have C:=V.trans p;rw[<-D.o]at s;unfold IJ at s p B C;simp only[mD]at s B C;clear m1 w F G H I J L S p;go_wp2;go_roundg (b.length-(k+1))
    ·exact⟨k+1,by omega,rfl,by go_num,s.Zbj bH.drew,B.Zbj bH.drew,C.drew⟩
    omega
 ·have e:k=b.length:=by omega
  subst e;rw[Sy]at y;go_wp2;go_end0;exact⟨rfl,y,hK⟩
end Go.Proofs.YtpdholcaobgofaaGreat
