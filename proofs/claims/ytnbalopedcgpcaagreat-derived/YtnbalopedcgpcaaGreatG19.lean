import Derived.Test.YtnbalopedcgpcaaGreatG18
namespace Go.Proofs.YtnbalopedcgpcaaGreat
open Go.RowKit Tryz
open Value renaming int->Xx,string->Xy,slice->Xz,pointer->XA,agg->XB,tuple->XD
open Obj renaming cells->XE
open IntKind renaming i64->XF
open Ending renaming returned->XH
open World renaming cell?->XI
open Option renaming none->XJ,some->XK
open Bool renaming true->XL,false->XM
open Go.RowKit renaming Hid->XN
open Go renaming Calls->XO,World->XP,Value->XQ
set_option maxHeartbeats 0
variable{y m:XP}{v:Nat}{g z0:List Rw}{S:List St}{i:Nat->Hd}{z1:iR}(d:Nat)(D f:List St)(n:Nat)(T:St)(L:ByteArray)(l:Nat)(w:List St)(a:Nat->Hd)(x:List Rw)(I:XP)(H:List St)(M:List ByteArray)(N:List Bool)(o:Pl)(b:Nat)
section
theorem yQ(k l c u:Int)(a f:ByteArray)(b d:Option Addr)(i e j g:Nat) :
    (Instr.field 110 (XB #[Xx XF k,Xy a,Xz b i e,Xz d j g,Xy f,Xx XF l,Xx XF c,Xx XF u]) 1).run prog I=.ok (Xy a) I:=by kernel_rfl
attribute [local go_sem] yQ
def iu(label:ByteArray)(L:List Rw)(steps:List gY)(f:on):Rw :=
  if(f.1==0)=XL then
    (match ub steps with
     | some u=>⟨label,3,0,((steps[u]?).map gY.at_).getD db⟩
     | none=>if jE L steps=XL then⟨label,5,0,db⟩ else⟨label,4,0,db⟩)
  else⟨label,2,f.1,f.2⟩
def dP(l:List St)(n:Nat)(s:St)(L:List Rw):Rw :=
  iu s.label L (eB l n s).1 (if(ub (eB l n s).1).isNone=XL/\((eB l n s).2.1==0)=XL then dH l n s (eB l n s).1 else(eB l n s).2)
theorem dw{x:Rw}(h:y.heap[v]?=XK (XE (ii x).toArray 69)) :
    XI y ⟨v,0,XJ⟩=XK (Xy x.label)/\XI y ⟨v,1,XJ⟩=XK (Xx XF x.Us)/\XI y ⟨v,2,XJ⟩=XK (Xx XF x.why)/\XI y ⟨v,3,XJ⟩=XK (Xy x.at_.file)/\XI y ⟨v,4,XJ⟩=XK (Xx XF x.at_.line)/\XI y ⟨v,5,XJ⟩=XK (Xx XF x.at_.col):=by
  refine⟨?_,?_,?_,?_,?_,?_⟩ <;> (rw[ab h];rfl)
theorem vd(K:aa [] y m)(a:y.heap.size<=v)(b c d e f g:XQ):aa [] y ((((((m.setCell ⟨v,0,XJ⟩ b).setCell ⟨v,1,XJ⟩ c).setCell ⟨v,2,XJ⟩ d).setCell ⟨v,3,XJ⟩ e).setCell ⟨v,4,XJ⟩ f).setCell ⟨v,5,XJ⟩ g) :=
  (((((K.setCell (P7 a) _).setCell (P7 a) _).setCell (P7 a) _).setCell (P7 a) _).setCell (P7 a) _).setCell (P7 a) _
set_option maxRecDepth 100000
theorem Fh(gh:Nat)(a:List St)(H K:Nat->Hd)(L:List Rw)(w:XP)(h:gX w d n a H b L)(ok:dB a)(ha:l<a.length)(a4:mV a[l])(a1:eZ w gh a a.length K) :
    XO prog 115 #[XA (XK ⟨d,n,XJ⟩),Xx XF l,Xz (XK ⟨gh,0,XJ⟩) a.length a.length] w fun e w' =>
      e=XH (XB (ii (dP a l a[l] L)).toArray)/\aa [] w w':=by
  have bg:=h.recd.lt;have a8:=ok.len;have aq:=Jq a l ok ha a4;obtain⟨W,hW⟩:∃W,W=w.alloc (XE #[Xy ⟨#[]⟩,Xx XF 0,Xx XF 0,Xy ⟨#[]⟩,Xx XF 0,Xx XF 0] 69):=⟨_,rfl⟩
  have kW:aa [] w W:=by rw[hW];exact(aa.refl [] _).alloc _
  have BF:W.heap[w.heap.size]?=XK (XE (ii lz).toArray 69):=by rw[hW];exact PM _ _
  have HW:XN _:=hW.symm;clear hW;have U:XN (dP a l a[l] L=iu a[l].label L (eB a l a[l]).1 (if(ub (eB a l a[l]).1).isNone=XL/\((eB a l a[l]).2.1==0)=XL then dH a l a[l] (eB a l a[l]).1 else(eB a l a[l]).2)):=rfl;have RD:=fun(w':XP) (k:aa [] w w')=>FH d n l a H w' (h.Ur k).recd ha ok a4;have PL:=fun(hd:Hd) (w':XP) (k:aa [] w w') (o':aE w' hd (eO (eB a l a[l]).1))=>GY d n gh l a H K hd (eB a l a[l]).1 w' (h.Ur k).recd ok ha (a1.Ur k) o' aq;have am:=aq.len;have az:XN _:=RD;have av:XN _:=PL;clear RD PL aq;generalize eB a l a[l]=PF at *;obtain⟨c,J,G⟩:=PF;simp only at U az av am;go_enter func115,ntmps115;go_upto_region 1 with fail
  rw[HW.out];go_upto_region 2 with (go_at_call 51;refine(aQ d n l a H _ (by exact(h.Ur kW).recd) ha).mono ?_;rintro e m ⟨rfl,k1⟩;unfold bW)
  obtain⟨W2,ac⟩:∃W2,W2=m.alloc (XE #[Xy a[l].label,Xx XF 0,Xx XF 0,Xy ⟨#[]⟩,Xx XF 0,Xx XF 0] 69):=⟨_,rfl⟩
  have k2:aa [] W W2:=by rw[ac];exact k1.alloc _
  have BR:W2.heap[m.heap.size]?=XK (XE (ii ⟨a[l].label,0,0,db⟩).toArray 69):=by rw[ac];exact PM _ _
  have g:w.heap.size<m.heap.size:=by have:=k1.size;have:=ae BF;omega
  rw[<-ac];clear ac;have K2:=kW.trans k2;have a5:=k2.get BF (by simp);go_upto_region 3 with (go_at_call 118;refine(az.out _ (by exact K2)).mono ?_;rintro e w3 ⟨hd,rfl,ai,bf,k3⟩;unfold fD)
  obtain⟨Z,S⟩:∃Z,Z=w3.alloc (XE #[Xx XF J,Xy G.file,Xx XF G.line,Xx XF G.col] 196):=⟨_,rfl⟩
  have k4:aa [] W2 Z:=by rw[S];exact k3.alloc _
  have B9:Z.heap[w3.heap.size]?=XK (XE (Bv (J,G)) 196):=by rw[S];exact PM _ _
  have N:aE Z hd (eO c):=by rw[S];exact ai.Uw (fun x hx=>((aa.refl [] _).alloc _).block x (ai.lt hx) (by simp))
  rw[<-S];clear S;have bk:m.heap.size<w3.heap.size:=by have:=k3.size;have:=ae BR;omega
  have K4:=K2.trans k4;have ag:=k4.get BR (by simp);have ad:=k4.get a5 (by simp);have FU:=p6 hd c Z N (by omega);cases hu:ub c with
  | some u =>
    have HU:XN _:=hu;rw[hu]at FU;simp only[eT]at FU;have a3:u<c.length:=by
      have:=Qm hu;simpa using this
    have bl:¬((u:Int)<0):=(by omega);have a9:(u:Int) ≥ 0:=(by omega);have bc:(u:Int)<c.length:=(by omega);clear hu;have Y:=K4;have O:=B9;have o:=ag;have z:=ad;obtain⟨f0,f1,f2,f3⟩:=fR O;obtain⟨p,q,r,s,t,y⟩:=dw o;have yr:=aw o;simp only[db]at p q r s t y;cases T:(J==0)
    · have a2:(J != 0)=XL:=by simp[bne,T]
      have Q:XN (dP a l a[l] L=⟨a[l].label,2,J,G⟩):=(by show _=_;rw[U.out,HU.out,T];simp[iu,T]);clear U;(go_upto_region 4 with (go_at_call 139;refine FU.mono ?_;rintro e wu ⟨rfl,I⟩;rw[I]));(go_upto_region 16 with fail);obtain⟨X,j⟩:∃X,X=((((Z.setCell ⟨m.heap.size,1,XJ⟩ (Xx XF 2)).setCell ⟨m.heap.size,2,XJ⟩ (Xx XF J)).setCell ⟨m.heap.size,3,XJ⟩ (Xy G.file)).setCell ⟨m.heap.size,4,XJ⟩ (Xx XF G.line)).setCell ⟨m.heap.size,5,XJ⟩ (Xx XF G.col):=⟨_,rfl⟩
      have P:X.heap[m.heap.size]?=XK (XE (ii ⟨a[l].label,2,J,G⟩).toArray 69):=by
        rw[j];rw[af (af (af (af (af o _ _) _ _) _ _) _ _) _ _];rfl
      have R:aa [] w X:=(by rw[j];exact(((((Y.setCell (P7 (QU g)) _).setCell (P7 (QU g)) _).setCell (P7 (QU g)) _).setCell (P7 (QU g)) _).setCell (P7 (QU g)) _));have i:X.heap[w.heap.size]?=XK (XE (ii lz).toArray 69):=by
        rw[j];rw[P9 _ _ _ _ (by simp;omega)];rw[P9 _ _ _ _ (by simp;omega)];rw[P9 _ _ _ _ (by simp;omega)];rw[P9 _ _ _ _ (by simp;omega)];rw[P9 _ _ _ _ (by simp;omega)];exact z
      rw[<-j];clear j p q r s t y yr;obtain⟨p,q,r,s,t,y⟩:=dw P;obtain⟨A,B,C,D,E,F⟩:=dw i;have ys:=aw i;simp only[lz,db]at p q r s t y A B C D E F;go_wp2;exact Qg (v:=XB (ii ⟨a[l].label,2,J,G⟩).toArray) (by simp[results,results115,go_sem,A,B,C,D,E,F,ii]) rfl ⟨by rw[Q.out],vd R (PQ _) _ _ _ _ _ _⟩
    · have a2:(J != 0)=XM:=by simp[bne,T]
      obtain⟨gp,ep,a0,ah,-,-,d2,d3,d4⟩:=N.step u a3;have Q:XN (dP a l a[l] L=⟨a[l].label,3,0,c[u].at_⟩):=(by show _=_;rw[U.out,HU.out,T];simp[iu,T,HU.out,a3]);obtain⟨ao,be⟩:=hd;simp only at ep a0 ah;subst ep;clear U;generalize c[u]=st at *;(go_upto_region 4 with (go_at_call 139;refine FU.mono ?_;rintro e wu ⟨rfl,I⟩;rw[I]));(go_upto_region 16 with fail);obtain⟨X,j⟩:∃X,X=(((Z.setCell ⟨m.heap.size,1,XJ⟩ (Xx XF 3)).setCell ⟨m.heap.size,3,XJ⟩ (Xy st.at_.file)).setCell ⟨m.heap.size,4,XJ⟩ (Xx XF st.at_.line)).setCell ⟨m.heap.size,5,XJ⟩ (Xx XF st.at_.col):=⟨_,rfl⟩
      have P:X.heap[m.heap.size]?=XK (XE (ii ⟨a[l].label,3,0,st.at_⟩).toArray 69):=by
        rw[j];rw[af (af (af (af o _ _) _ _) _ _) _ _];rfl
      have R:aa [] w X:=(by rw[j];exact((((Y.setCell (P7 (QU g)) _).setCell (P7 (QU g)) _).setCell (P7 (QU g)) _).setCell (P7 (QU g)) _));have i:X.heap[w.heap.size]?=XK (XE (ii lz).toArray 69):=by
        rw[j];rw[P9 _ _ _ _ (by simp;omega)];rw[P9 _ _ _ _ (by simp;omega)];rw[P9 _ _ _ _ (by simp;omega)];rw[P9 _ _ _ _ (by simp;omega)];exact z
      rw[<-j];clear j p q r s t y yr;obtain⟨p,q,r,s,t,y⟩:=dw P;obtain⟨A,B,C,D,E,F⟩:=dw i;have ys:=aw i;simp only[lz,db]at p q r s t y A B C D E F;go_wp2;exact Qg (v:=XB (ii ⟨a[l].label,3,0,st.at_⟩).toArray) (by simp[results,results115,go_sem,A,B,C,D,E,F,ii]) rfl ⟨by rw[Q.out],vd R (PQ _) _ _ _ _ _ _⟩
  | none =>
    have HU:XN _:=hu;rw[hu]at FU;simp only[eT]at FU;clear hu;cases T:(J==0)
    · have a2:(J != 0)=XL:=by simp[bne,T]
      have Q:XN (dP a l a[l] L=⟨a[l].label,2,J,G⟩):=(by show _=_;rw[U.out,HU.out,T];simp[iu,T]);have Y:=K4;have O:=B9;have o:=ag;have z:=ad;obtain⟨f0,f1,f2,f3⟩:=fR O;obtain⟨p,q,r,s,t,y⟩:=dw o;have yr:=aw o;simp only[db]at p q r s t y;clear U;(go_upto_region 4 with (go_at_call 139;refine FU.mono ?_;rintro e wu ⟨rfl,I⟩;rw[I]));(go_upto_region 16 with fail);obtain⟨X,j⟩:∃X,X=((((Z.setCell ⟨m.heap.size,1,XJ⟩ (Xx XF 2)).setCell ⟨m.heap.size,2,XJ⟩ (Xx XF J)).setCell ⟨m.heap.size,3,XJ⟩ (Xy G.file)).setCell ⟨m.heap.size,4,XJ⟩ (Xx XF G.line)).setCell ⟨m.heap.size,5,XJ⟩ (Xx XF G.col):=⟨_,rfl⟩
      have P:X.heap[m.heap.size]?=XK (XE (ii ⟨a[l].label,2,J,G⟩).toArray 69):=by
        rw[j];rw[af (af (af (af (af o _ _) _ _) _ _) _ _) _ _];rfl
      have R:aa [] w X:=(by rw[j];exact(((((Y.setCell (P7 (QU g)) _).setCell (P7 (QU g)) _).setCell (P7 (QU g)) _).setCell (P7 (QU g)) _).setCell (P7 (QU g)) _));have i:X.heap[w.heap.size]?=XK (XE (ii lz).toArray 69):=by
        rw[j];rw[P9 _ _ _ _ (by simp;omega)];rw[P9 _ _ _ _ (by simp;omega)];rw[P9 _ _ _ _ (by simp;omega)];rw[P9 _ _ _ _ (by simp;omega)];rw[P9 _ _ _ _ (by simp;omega)];exact z
      rw[<-j];clear j p q r s t y yr;obtain⟨p,q,r,s,t,y⟩:=dw P;obtain⟨A,B,C,D,E,F⟩:=dw i;have ys:=aw i;simp only[lz,db]at p q r s t y A B C D E F;go_wp2;exact Qg (v:=XB (ii ⟨a[l].label,2,J,G⟩).toArray) (by simp[results,results115,go_sem,A,B,C,D,E,F,ii]) rfl ⟨by rw[Q.out],vd R (PQ _) _ _ _ _ _ _⟩
    · have M:XN (dP a l a[l] L=iu a[l].label L c (dH a l a[l] c)):=by show _=_;rw[U.out,HU.out,T];simp
      obtain⟨f0,f1,f2,f3⟩:=fR B9;clear U;generalize dH a l a[l] c=f at *;(go_upto_region 4 with (go_at_call 139;refine FU.mono ?_;rintro e wu ⟨rfl,I⟩;rw[I]));have bd:=K4;(go_upto_region 7 with (go_at_call 140;refine(av.out hd _ (by exact K4) (by exact N)).mono ?_;rintro e w5 ⟨rfl,k5⟩;unfold fD;obtain⟨t0,t1,t2,t3⟩:=fR (k5.get B9 (by simp));have yt:=aw (k5.get B9 (by simp))));obtain⟨V,hV⟩:∃V,V=(((w5.setCell ⟨w3.heap.size,0,XJ⟩ (Xx XF f.1)).setCell ⟨w3.heap.size,1,XJ⟩ (Xy f.2.file)).setCell ⟨w3.heap.size,2,XJ⟩ (Xx XF f.2.line)).setCell ⟨w3.heap.size,3,XJ⟩ (Xx XF f.2.col):=⟨_,rfl⟩
      have O:V.heap[w3.heap.size]?=XK (XE (Bv f) 196):=by
        rw[hV,af (af (af (af (k5.get B9 (by simp)) _ _) _ _) _ _)];rfl
      have k9:aa [w3.heap.size] w5 V:=(by rw[hV];exact fS _ _ _ _);have Y:aa [] w V:=(by rw[hV];exact ic (K4.trans k5) (by omega) _ _ _ _);have o:=k9.get (k5.get ag (by simp)) (by simp;omega);have z:=k9.get (k5.get ad (by simp)) (by simp;omega);have a6:aE V hd (eO c):=(N.Uw (w':=w5) (fun x hx=>k5.block x (N.lt hx) (by simp))).Uw (fun x hx=>k9.block x (PY (N.lt hx) k5.size) (by simp;rintro rfl;have:=ai.lt hx;omega));rw[<-hV];clear hV t0 t1 t2 t3 yt;clear f0 f1 f2 f3;obtain⟨f0,f1,f2,f3⟩:=fR O;obtain⟨p,q,r,s,t,y⟩:=dw o;have yr:=aw o;simp only[db]at p q r s t y;cases hf:(f.1==0)
      · have a7:(f.1 != 0)=XL:=by simp[bne,hf]
        have Q:XN (dP a l a[l] L=⟨a[l].label,2,f.1,f.2⟩):=(by show _=_;rw[M.out];simp[iu,hf]);clear M;(go_upto_region 16 with fail);obtain⟨X,j⟩:∃X,X=((((V.setCell ⟨m.heap.size,1,XJ⟩ (Xx XF 2)).setCell ⟨m.heap.size,2,XJ⟩ (Xx XF f.1)).setCell ⟨m.heap.size,3,XJ⟩ (Xy f.2.file)).setCell ⟨m.heap.size,4,XJ⟩ (Xx XF f.2.line)).setCell ⟨m.heap.size,5,XJ⟩ (Xx XF f.2.col):=⟨_,rfl⟩
        have P:X.heap[m.heap.size]?=XK (XE (ii ⟨a[l].label,2,f.1,f.2⟩).toArray 69):=by
          rw[j];rw[af (af (af (af (af o _ _) _ _) _ _) _ _) _ _];rfl
        have R:aa [] w X:=(by rw[j];exact(((((Y.setCell (P7 (QU g)) _).setCell (P7 (QU g)) _).setCell (P7 (QU g)) _).setCell (P7 (QU g)) _).setCell (P7 (QU g)) _));have i:X.heap[w.heap.size]?=XK (XE (ii lz).toArray 69):=by
          rw[j];rw[P9 _ _ _ _ (by simp;omega)];rw[P9 _ _ _ _ (by simp;omega)];rw[P9 _ _ _ _ (by simp;omega)];rw[P9 _ _ _ _ (by simp;omega)];rw[P9 _ _ _ _ (by simp;omega)];exact z
        rw[<-j];clear j p q r s t y yr;obtain⟨p,q,r,s,t,y⟩:=dw P;obtain⟨A,B,C,D,E,F⟩:=dw i;have ys:=aw i;simp only[lz,db]at p q r s t y A B C D E F;go_wp2;exact Qg (v:=XB (ii ⟨a[l].label,2,f.1,f.2⟩).toArray) (by simp[results,results115,go_sem,A,B,C,D,E,F,ii]) rfl ⟨by rw[Q.out],vd R (PQ _) _ _ _ _ _ _⟩
      · have a7:(f.1 != 0)=XM:=by simp[bne,hf]
        have RE:=Jv d n a H b L hd c V (h.Ur Y) a6 (by omega);cases hr:jE L c
        · have Q:XN (dP a l a[l] L=⟨a[l].label,4,0,db⟩):=by show _=_;rw[M.out];simp[iu,hf,HU.out,hr]
          rw[hr]at RE;clear M;(go_upto_region 6 with (go_at_call 141;refine RE.mono ?_;rintro e wv ⟨rfl,ap⟩;rw[ap]));(go_upto_region 16 with fail);obtain⟨X,j⟩:∃X,X=V.setCell ⟨m.heap.size,1,XJ⟩ (Xx XF 4):=⟨_,rfl⟩
          have P:X.heap[m.heap.size]?=XK (XE (ii ⟨a[l].label,4,0,db⟩).toArray 69):=by
            rw[j];rw[af o _ _];rfl
          have R:aa [] w X:=(by rw[j];exact(Y.setCell (P7 (QU g)) _));have i:X.heap[w.heap.size]?=XK (XE (ii lz).toArray 69):=by
            rw[j];rw[P9 _ _ _ _ (by simp;omega)];exact z
          rw[<-j];clear j p q r s t y yr;obtain⟨p,q,r,s,t,y⟩:=dw P;obtain⟨A,B,C,D,E,F⟩:=dw i;have ys:=aw i;simp only[lz,db]at p q r s t y A B C D E F;go_wp2;exact Qg (v:=XB (ii ⟨a[l].label,4,0,db⟩).toArray) (by simp[results,results115,go_sem,A,B,C,D,E,F,ii,db]) rfl ⟨by rw[Q.out],vd R (PQ _) _ _ _ _ _ _⟩
        · have Q:XN (dP a l a[l] L=⟨a[l].label,5,0,db⟩):=by show _=_;rw[M.out];simp[iu,hf,HU.out,hr]
          rw[hr]at RE;clear M;(go_upto_region 15 with (go_at_call 141;refine RE.mono ?_;rintro e wv ⟨rfl,ap⟩;rw[ap]));(go_upto_region 16 with fail);obtain⟨X,j⟩:∃X,X=V.setCell ⟨m.heap.size,1,XJ⟩ (Xx XF 5):=⟨_,rfl⟩
          have P:X.heap[m.heap.size]?=XK (XE (ii ⟨a[l].label,5,0,db⟩).toArray 69):=by
            rw[j];rw[af o _ _];rfl
          have R:aa [] w X:=(by rw[j];exact(Y.setCell (P7 (QU g)) _));have i:X.heap[w.heap.size]?=XK (XE (ii lz).toArray 69):=by
            rw[j];rw[P9 _ _ _ _ (by simp;omega)];exact z
          rw[<-j];clear j p q r s t y yr;obtain⟨p,q,r,s,t,y⟩:=dw P;obtain⟨A,B,C,D,E,F⟩:=dw i;have ys:=aw i;simp only[lz,db]at p q r s t y A B C D E F;go_wp2;exact Qg (v:=XB (ii ⟨a[l].label,5,0,db⟩).toArray) (by simp[results,results115,go_sem,A,B,C,D,E,F,ii,db]) rfl ⟨by rw[Q.out],vd R (PQ _) _ _ _ _ _ _⟩
end
def gL(l:List St)(n:Nat)(prev:List Rw):Rw:=match l[n]? with
 | some s=>if(s.kind==4)=XL then⟨s.label,1,0,db⟩ else if(s.kind==5)=XL then dP l n s prev else lz
 | none=>lz
def ck(l:List St):Nat->List Rw
 | 0=>[]
 | k+1=>ck l k++[gL l k (ck l k)]
theorem iw(k:Nat):(ck H k).length=k:=by
 induction k with
 | zero=>rfl
 | succ k a=>simp[ck,a]
def fX(l:List St)(k:Nat):List Rw:=ck l k++List.replicate (l.length-k) lz
theorem pn(h:b<=H.length):(fX H b).length=H.length:=by simp[fX,iw];omega
theorem FI(h:b<H.length):fX H (b+1)=(fX H b).set b (gL H b (ck H b)):=by
 unfold fX;have e:H.length-b=(H.length-(b+1))+1:=by omega
 rw[e,List.replicate_succ,ck];have a:=iw H b;rw[RB _ _ (by omega),a,Rl,Tt,QY];rfl
theorem Jb:fX H H.length=ck H H.length:=by simp[fX]
theorem Jc(h:b<H.length):(fX H b).set b lz=fX H b:=by
 unfold fX;have e:H.length-b=(H.length-(b+1))+1:=by omega
 have a:=iw H b;rw[e,List.replicate_succ,RB _ _ (by omega),a,Rl,Tt]
theorem Kd(n:Nat):jy (x++List.replicate b lz) n=jy x n:=by
 unfold jy;rw[PK,PK];by_cases h:n<x.length
 ·rw[PR h]
 ·rw[Qb (by omega),QP (l:=x) (by omega),SM];split <;> rfl
theorem z9(h:∀n,jy g n=jy z0 n)(a:List gY):jE g a=jE z0 a:=by
 unfold jE;simp only[h]
theorem wP(h:∀n,jy g n=jy z0 n)(l:List St)(n:Nat)(s:St):dP l n s g=dP l n s z0:=by
 unfold dP iu;rw[z9 h]
theorem BK:dP f n T (fX f b)=dP f n T (ck f b):=wP (fun _=>Kd _ _ _) f n T
theorem ke(A M B:List XQ)(i j:Nat)(v:XQ)(a:i=A.length+j)(b:j<M.length):(A++(M++B)).set i v=A++(M.set j v++B):=by
 subst a;rw[RB _ _ (by omega),QZ,So _ _ b]
theorem vI(a:b<x.length):ft x=ft (x.take b)++(ii x[b]++ft (x.drop (b+1))):=by
 have e:x=x.take b++(x[b] :: x.drop (b+1)):=by rw[<-Qr a,RC]
 conv=>lhs;rw[e]
 unfold ft;rw[Q1,QH]
theorem Ma(a:b<x.length)(r:Rw) :
  (((((((ft x).set (b*6) (Xy r.label)).set (b*6+1) (Xx XF r.Us)).set (b*6+2) (Xx XF r.why)).set (b*6+3) (Xy r.at_.file)).set (b*6+4) (Xx XF r.at_.line)).set (b*6+5) (Xx XF r.at_.col))=ft (x.set b r):=by
 have d:(ft (x.take b)).length=b*6:=by rw[Ah,QW];congr 1;omega
 have c:ft (x.set b r)=ft (x.take b)++(ii r++ft (x.drop (b+1))):=by
  rw[vI (x.set b r) b (by simpa using a)];simp[List.take_set,List.drop_set];rw[List.set_eq_of_length_le (by simp;omega)]
 rw[c,vI x b a,ii,ke _ _ _ _ 0 _ (by omega) (by simp),ke _ _ _ _ 1 _ (by omega) (by simp),ke _ _ _ _ 2 _ (by omega) (by simp),ke _ _ _ _ 3 _ (by omega) (by simp),ke _ _ _ _ 4 _ (by omega) (by simp),ke _ _ _ _ 5 _ (by omega) (by simp)];rfl
theorem aa.wide{S:List Nat}(k:aa [] y m):aa S y m:=k.mono (by simp)
def Ak(w:XP)(g k:Nat)(r:Rw):XP :=
 (((((w.setCell ⟨g,k*6,XJ⟩ (Xy r.label)).setCell ⟨g,k*6+1,XJ⟩ (Xx XF r.Us)).setCell ⟨g,k*6+2,XJ⟩ (Xx XF r.why)).setCell ⟨g,k*6+3,XJ⟩ (Xy r.at_.file)).setCell ⟨g,k*6+4,XJ⟩ (Xx XF r.at_.line)).setCell ⟨g,k*6+5,XJ⟩ (Xx XF r.at_.col)
theorem og(k:Nat)(r:Rw):aa [b] I (Ak I b k r) :=
 ((((((aa.refl [b] I).setCell (P0 (by simp)) _).setCell (P0 (by simp)) _).setCell (P0 (by simp)) _).setCell (P0 (by simp)) _).setCell (P0 (by simp)) _).setCell (P0 (by simp)) _
theorem gX.store{o:Nat}{a:Nat}(h:gX y v o S i a g)(c:v≠a)(j:∀x,cD i x->x≠a)(k:Nat)(l:k<g.length)(r:Rw):gX (Ak y a k r) v o S i a (g.set k r):=by
 have d:=og y a k r;obtain⟨b,t,e,f⟩:=h.cell;refine⟨h.recd.kept d (by simpa using c) (fun x m=>by simpa using j x m),⟨b,t,d.get e (by simpa using c),by rw[Tl];exact f⟩,?_⟩;unfold Ak;rw[af (af (af (af (af (af h.arr _ _) _ _) _ _) _ _) _ _)];simp only[List.setIfInBounds_toArray];rw[Ma g k l r]
def rj(l:List St)(H:Nat->Hd):Nat->Hd:=fun i=>if i=6∨(10<=i/\i<10+2*l.length) then H i else⟨XJ,0⟩
theorem kj(h:b=6∨(10<=b/\b<10+2*w.length)):rj w a b=a b:=PZ h
theorem fG.trim(h:fG y S i):fG y S (rj S i)/\∀k,cD (rj S i) k->k<y.heap.size/\cD i k:=by
 refine⟨⟨?_,fun a s d=>?_,fun a s d=>?_⟩,?_⟩
 ·have e:jb S (rj S i)=jb S i:=by
   rw[<-re S i (fun a=>if a<10+2*S.length then i a else⟨XJ,0⟩) (fun j g=>PZ g)];apply tT;intro j g;by_cases c:j<10+2*S.length
   ·simp only[if_pos c];exact kj S i j (P7 ⟨g,c⟩)
   ·simp only[if_neg c];exact PV (by omega)
  rw[kj S i 6 (P0 rfl)];unfold fA;rw[e];exact h.own
 ·have b:a<S.length:=(Qc.1 d).1;rw[kj S i (10+2*a) (by omega)];exact h.syms a s d
 ·have b:a<S.length:=(Qc.1 d).1;rw[kj S i (11+2*a) (by omega)];exact h.prfs a s d
 ·rintro k ⟨a,b⟩;by_cases f:a=6∨(10<=a/\a<10+2*S.length)
  ·rw[kj S i a f]at b;refine⟨?_,⟨a,b⟩⟩;rcases f with rfl | ⟨l,m⟩
   ·exact h.own.lt b
   ·by_cases n:(a-10) % 2=0
    ·have e:a=10+2*((a-10) / 2):=(by omega);rw[e]at b;have c:(a-10) / 2<S.length:=by omega
     exact(h.syms _ _ (PJ c)).lt b
    ·have e:a=11+2*((a-10) / 2):=(by omega);rw[e]at b;have c:(a-10) / 2<S.length:=by omega
     exact(h.prfs _ _ (PJ c)).lt b
  ·have e:rj S i a=⟨XJ,0⟩:=PV f;rw[e]at b;simp[Hd.blk]at b
set_option maxRecDepth 100000
theorem kE(h:gX I d n w a l (fX w 0))(ok:dB w)(ac:∀i (hi:i<w.length),mV w[i])(hb:d≠l)(hg:∀x,cD a x->x≠l) :
  XO prog 88 #[XA (XK ⟨d,n,XJ⟩)] I fun e b=>e=XH (XD #[])/\gX b d n w a l (ck w w.length)/\aa [l] I b:=by
 have av:=h.recd.lt;have a2:=ae h.arr;have ah:=ok.len;go_enter func88,ntmps88;go_wp2_with (go_at_call 114;refine(ox d n w a _ (by exact h.recd) ok).mono ?_;rintro e w1 ⟨W,K,rfl,A1,a1,Z,k1⟩)
 go_loopg [3] w.length (fun gk iv wr=>∃(k:Nat),k<=w.length/\gk=w.length-k/\iv=Xx XF k/\gX wr d n w a l (fX w k)/\eZ wr W w w.length K/\aa [l] I wr)
 case atStart=>exact⟨0,by omega,by omega,rfl,h.Ur k1,A1,k1.wide⟩
 case round =>
  obtain⟨k,hk,az,rfl,y,hA,hK⟩:=hrel;have o:XN _:=pn w k hk;have c2:=y.at2;rw[o.out]at c2;by_cases f:k<w.length
  ·have j:XN (gL w k (ck w k)=if(w[k].kind==4)=XL then⟨w[k].label,1,0,db⟩ else if(w[k].kind==5)=XL then dP w k w[k] (fX w k) else lz):=by
    show _=_;unfold gL;rw[PJ f,BK]
   have g:XN _:=FI w k f;(go_upto_region 5 with (go_at_call 51;refine(aQ d n k w a _ (by exact y.recd) f).mono ?_;rintro e C ⟨rfl,k3⟩;unfold bW));obtain⟨X,R⟩:∃X,X=C.alloc (XE #[Xx XF w[k].kind,Xy w[k].label,Xz (a (10+2*k)).ao w[k].Um.length (a (10+2*k)).cap,Xz (a (11+2*k)).ao w[k].Ux.length (a (11+2*k)).cap,Xy w[k].fin.file,Xx XF w[k].fin.line,Xx XF w[k].fin.col,Xx XF w[k].til] 110):=⟨_,rfl⟩
   have kX:aa [] wr X:=(by rw[R];exact k3.alloc _);have BX:X.heap[C.heap.size]?=XK (XE #[Xx XF w[k].kind,Xy w[k].label,Xz (a (10+2*k)).ao w[k].Um.length (a (10+2*k)).cap,Xz (a (11+2*k)).ao w[k].Ux.length (a (11+2*k)).cap,Xy w[k].fin.file,Xx XF w[k].fin.line,Xx XF w[k].fin.col,Xx XF w[k].til] 110):=(by rw[R];exact PM _ _);rw[<-R];clear R;have m0:XI X ⟨C.heap.size,0,XJ⟩=XK (Xx XF w[k].kind):=by rw[ab BX];rfl
   have m1:XI X ⟨C.heap.size,1,XJ⟩=XK (Xy w[k].label):=(by rw[ab BX];rfl);have c:=y.Ur kX;have P:=hA.Ur kX;have V:=hK.trans kX.wide;have a0:=ae c.arr;have aq:=c.recd.lt;have a4:wr.heap.size<=C.heap.size:=k3.size;have ag:=ae y.arr;have ad:=y.recd.lt;have u:W≠l:=(by omega);have t:∀A x,(K A).blk=XK x->x∉[l]:=fun A x hx=>by have:=Z A x hx;simp;omega
   have v:=c.at2;rw[o.out]at v;have z:k<(fX w k).length:=(by rw[o.out];exact f);obtain⟨H,J,L,M,N,O⟩:=c.row k z;have S:=aw c.arr;have a3:(k:Int)<w.length:=(by omega);have ai:C.heap.size≠l:=(by omega);have am:l≠C.heap.size:=(by omega);have ap:l≠d:=fun e=>hb e.symm;clear c2;generalize (fX w k)[k]=m at *;cases Q:(w[k].kind==4)
   ·cases Y:(w[k].kind==5)
    ·have F:XN (fX w (k+1)=fX w k):=by
      show _=_;rw[g.out,j.out,Q,Y];simp only[Bool.false_eq_true,if_false];exact Jc w k f
     clear j g;go_wp2;go_roundg (w.length-(k+1))
     case measure=>omega
     case rel=>exact⟨k+1,by omega,rfl,by go_num,by rw[F.out];exact c,P,V⟩
    ·have F:XN (fX w (k+1)=(fX w k).set k (dP w k w[k] (fX w k))):=(by show _=_;rw[g.out,j.out,Q,Y];rfl);have JA:=fun(b:XP) (q:aa [] X b)=>Fh d n k l W w a K (fX w k) b (c.Ur q) ok f (ac k f) (P.Ur q);have G:XN _:=JA;have T:XN (∀b,aa [] X b->XI b ⟨d,n+2,XJ⟩=XK (Xz (XK ⟨l,0,XJ⟩) w.length w.length)):=by
      intro b q;have:=(c.Ur q).at2;rw[o.out]at this;exact this
     have U:XN (∀b,aa [] X b->XI b ⟨l,k*6,XJ⟩=XK (Xy m.label)/\XI b ⟨l,k*6+1,XJ⟩=XK (Xx XF m.Us)/\XI b ⟨l,k*6+2,XJ⟩=XK (Xx XF m.why)/\XI b ⟨l,k*6+3,XJ⟩=XK (Xy m.at_.file)/\XI b ⟨l,k*6+4,XJ⟩=XK (Xx XF m.at_.line)/\XI b ⟨l,k*6+5,XJ⟩=XK (Xx XF m.at_.col)/\∀A,b.frozen? ⟨l,A,XJ⟩=XM):=by
      intro b q;have B:=q.get c.arr (by simp);refine⟨?_,?_,?_,?_,?_,?_,fun A=>aw B A⟩
      ·rw[ab B,<-ab c.arr];exact H
      ·rw[ab B,<-ab c.arr];exact J
      ·rw[ab B,<-ab c.arr];exact L
      ·rw[ab B,<-ab c.arr];exact M
      ·rw[ab B,<-ab c.arr];exact N
      ·rw[ab B,<-ab c.arr];exact O
     unfold ii at G;clear j g JA H J L M N O S;generalize dP w k w[k] (fX w k)=r at *;(go_upto_region 8 with fail);go_region_held3 (fun b=>XI b ⟨d,n+2,XJ⟩=XK (Xz (XK ⟨l,0,XJ⟩) w.length w.length)) (go_keep) (first | (go_at_call 115;refine(G.out _ (by exact(aa.refl [] X).drew)).mono ?_;rintro e w5 ⟨rfl,k5⟩;have x0:=T.out w5 ((aa.refl [] X).drew.trans k5);obtain⟨H,J,L,M,N,O,S⟩:=U.out w5 ((aa.refl [] X).drew.trans k5)))
     all_goals
      have kk:=((aa.refl [] X).drew.trans k5);have s:=(c.Ur kk).store hb hg k z r;have p:=og w5 l k r;have D:=(P.Ur kk).kept p (by simpa using u) t;have E:=(V.trans kk.wide).trans p;rw[<-F.out]at s;unfold Ak at s p D E;clear m0 m1 v H J L M N O S x0;go_wp2;go_roundg (w.length-(k+1))
      case measure=>omega
      case rel=>exact⟨k+1,by omega,rfl,by go_num,s,D,E⟩
   ·have Y:(w[k].kind==5)=XM:=(by have:=Rr Q;rw[this];rfl);have F:XN (fX w (k+1)=(fX w k).set k ⟨w[k].label,1,0,db⟩):=(by show _=_;rw[g.out,j.out,Q];rfl);clear j g;(go_upto_region 6 with fail);go_region
    all_goals
     have s:=c.store hb hg k z ⟨w[k].label,1,0,db⟩;have p:=og X l k ⟨w[k].label,1,0,db⟩;have D:=P.kept p (by simpa using u) t;have E:=V.trans p;rw[<-F.out]at s;unfold Ak at s p D E;simp only[db]at s D E;clear m1 v H J L M N O S p;go_wp2;go_roundg (w.length-(k+1))
     case measure=>omega
     case rel=>exact⟨k+1,by omega,rfl,by go_num,s.Ur (aa.refl [] _).drew,D.Ur (aa.refl [] _).drew,E.drew⟩
  ·have e:k=w.length:=(by omega);subst e;rw[Jb]at y;go_wp2;go_end0;exact⟨rfl,y,hK⟩
theorem jZ(h:b<=D.length):bZ (D++f) l b=bZ D l b:=by
 unfold bZ;rcases R1 l D.length with a | a
 ·rw[PR a]
 ·rw[QP (l:=D) a];cases e:(D++f)[l]? with
  | none=>rfl
  | some s =>
   have c:decide (l<b)=XM:=RY (by omega)
   show(decide (l<b)&&_)=XM
   rw[c];rfl
theorem lQ(h:b<=l):bZ f l b=XM:=by
 unfold bZ;cases e:f[l]? with
 | none=>rfl
 | some s =>
  have a:decide (l<b)=XM:=RY (by omega)
  show(decide (l<b)&&_)=XM
  rw[a];rfl
theorem lK(k:Nat)(p q:Nat->Bool)(h:∀n,n<b->p n=q n)(a:∀n,b<=n->p n=XM):(List.range (b+k)).filter p=(List.range b).filter q:=by
 induction k with
 | zero=>exact RT (fun x c=>h x (by simpa using c))
 | succ k d =>
  rw[<-Sj,QM,QD,d];simp[a (b+k) (by omega)]
theorem oX{α:Type}(l:List Nat)(p q:Nat->Option α)(h:∀x∈l,p x=q x):l.filterMap p=l.filterMap q:=by
 induction l with
 | nil=>rfl
 | cons x r b=>rw[QO,QO,h x (by simp),b (fun y a=>h y (Qv _ a))]
theorem sC{α:Type}(k:Nat)(p q:Nat->Option α)(h:∀n,n<b->p n=q n)(a:∀n,b<=n->p n=XJ):(List.range (b+k)).filterMap p=(List.range b).filterMap q:=by
 induction k with
 | zero=>exact oX _ _ _ (fun x c=>h x (by simpa using c))
 | succ k d =>
  rw[<-Sj,QM,Q0,d];simp[a (b+k) (by omega)]
theorem EM(p q:Nat->Bool)(h:∀n,n<l->p n=q n)(a:∀n,l<=n->p n=XM):(List.range (l+b)).find? p=(List.range l).find? q:=by
 rw[<-List.head?_filter,<-List.head?_filter,lK l b p q h a]
theorem sE(h:b<=D.length):ez (D++f) L b=ez D L b:=by
 unfold ez;rw[Qa];refine EM _ _ _ _ (fun n a=>?_) (fun n a=>?_)
 ·unfold gK;rw[PR a,jZ D f n b h]
 ·unfold gK;cases e:(D++f)[n]? with
  | none=>rfl
  | some s=>simp only;rw[lQ _ n b (by omega),Ug]
theorem qC(h:b<w.length):symsAt (w++H) b=symsAt w b:=by
 unfold symsAt;rw[PR h]
theorem Au(h:b<w.length):bX (w++H) b=bX w b:=by
 unfold bX dg;rw[Qa,lK w.length H.length (jM (w++H) b) (jM w b),qC w H b h]
 ·congr 1;rw[Ta,Ta];congr 1;refine QX (fun x c=>qC w H x ?_);have:=(QL.1 c).1;simpa using this
 ·intro n a;unfold jM;rw[PR a,jZ w H n b (by omega)]
 ·intro n a;unfold jM;cases e:(w++H)[n]? with
  | none=>rfl
  | some s=>simp only;rw[lQ _ n b (by omega),Ug]
theorem mB(h:b<w.length):al (w++H) b=al w b:=by
 unfold al cI;rw[Qa,Au w H b h];refine lK _ _ _ _ (fun n a=>?_) (fun n a=>?_)
 ·unfold d9;rw[PR a,jZ w H n b (by omega)]
 ·unfold d9;cases e:(w++H)[n]? with
  | none=>rfl
  | some s=>simp only;rw[lQ _ n b (by omega),Tw]
theorem wW(h:b<w.length)(a:List ByteArray)(k:Nat)(d:k<=w.length):bE (w++H) b a k=bE w b a k:=by
 induction k with
 | zero=>rfl
 | succ k c =>
  have e:hZ (w++H) b k=hZ w b k:=by unfold hZ;rw[PR (by omega),jZ w H k b (by omega)]
  rw[bE,bE,e,c (by omega),qC w H k (by omega)]
theorem nN(h:b<w.length)(a:List ByteArray):cT (w++H) b a=cT w b a:=by
 unfold cT;rw[Qa];generalize H.length=k
 induction k with
 | zero=>exact wW w H b h a w.length (PQ _)
 | succ k c =>
  rw[<-Sj,bE,PV,c];have:hZ (w++H) b (w.length+k)=XM:=by
   unfold hZ;cases e:(w++H)[w.length+k]? with
   | none=>rfl
   | some s=>simp only;rw[lQ _ _ b (by omega),Ug]
  rw[this];simp
theorem KM(h:b<w.length):rC (w++H) b=rC w b:=by
 unfold rC lF;rw[Qa];refine sC _ _ _ _ (fun n a=>?_) (fun n a=>?_)
 ·unfold sc;rw[PR a,jZ w H n b (by omega)]
 ·unfold sc;cases e:(w++H)[n]? with
  | none=>rfl
  | some s=>simp only;rw[lQ _ n b (by omega)];simp
theorem Be(h:b<w.length)(a:Pl)(d:List (ByteArray×Pl)):∀i c,ci (w++H) b a i d c=ci w b a i d c:=by
 induction d with
 | nil=>intro i c;rfl
 | cons x r e =>
  intro i c;obtain⟨t,p⟩:=x;rw[ci,ci,sE w H t b (by omega)];simp only[e]
theorem FB(h:b<w.length)(c:Pl)(d:List (ByteArray×Pl)):∀a,cO (w++H) b c d a=cO w b c d a:=by
 induction d with
 | nil=>intro a;rfl
 | cons x r e =>
  intro a;obtain⟨t,p⟩:=x;rw[cO,cO,sE w H t b (by omega)];simp only[e]
theorem Jp(h:b<w.length)(s:St):eB (w++H) b s=eB w b s:=by
 unfold eB gZ qK;rw[FB w H b h,mB w H b h,Be w H b h]
theorem p8(h:b<w.length):(w++H).getD b dJ=w.getD b dJ:=by
 rw[PK,PK,PR h]
theorem yV(b:List Nat)(h:∀x∈b,x<w.length):∀a S,fJ (w++H) b a S=fJ w b a S:=by
 induction b with
 | nil=>intro a S;simp[fJ]
 | cons x r d =>
  intro a S;cases a with
  | nil=>simp[fJ]
  | cons e a =>
   rw[fJ,fJ,p8 w H x (h x (by simp))];simp only[d (fun y c=>h y (by simp[c]))]
theorem Fi(h:b<w.length)(S:Kt)(c:List ByteArray)(a:List Bool):j9 (w++H) b S c a=j9 w b S c a:=by
 unfold j9 lm;rw[nN w H b h]
theorem A9(h:b<w.length)(d:List ByteArray)(a:List Bool)(c:List (List ByteArray)):eI (w++H) b d a c=eI w b d a c:=by
 unfold eI lE;rw[mB w H b h,p8 w H b h,yV w H _ (fun x e=>sM e)];simp only[Fi w H b h]
theorem vJ(b c:List (List ByteArray))(s:gY)(h:(s.kind==3)=XM->s.Un<w.length):eW (w++H) M N b c s=eW w M N b c s:=by
 unfold eW;cases d:(s.kind==3) with
 | true=>rfl
 | false =>
  have a:=h d;have e:fE (w++H) s.Un=fE w s.Un:=by unfold fE;rw[PR a]
  rw[e,A9 w H _ a,mB w H _ a,p8 w H _ a]
theorem xh(b:List ByteArray)(a:List gY)(h:∀s∈a,(s.kind==3)=XM->s.Un<w.length) :
  ∀S,dM (w++H) M N o b a S=dM w M N o b a S:=by
 induction a with
 | nil=>intro S;rfl
 | cons s r d =>
  intro S;have e:ig (w++H) M N S s=ig w M N S s:=by unfold ig;rw[vJ w H M N S.1 S.2 s (h s (by simp))]
  rw[dM,dM,e];simp only[d (fun y c=>h y (by simp[c]))]
theorem BM(d:dB w)(a:b<w.length)(c:mV w[b])(L:List Rw):dP (w++H) b w[b] L=dP w b w[b] L:=by
 unfold dP dH;rw[Jp w H b a,KM w H b a,nN w H b a,xh w H _ _ _ _ _ (Jq w b d a c).named]
theorem I9(d:dB w)(a:b<w.length)(c:mV w[b])(L:List Rw):gL (w++H) b L=gL w b L:=by
 unfold gL;rw[PR a,PJ a];simp only[BM w H b d a c]
theorem Ej(c:dB w)(a:∀i (d:i<w.length),mV w[i])(k:Nat)(e:k<=w.length):ck (w++H) k=ck w k:=by
 induction k with
 | zero=>rfl
 | succ k b=>rw[ck,ck,b (by omega),I9 w H k c (by omega) (a k (by omega))]
def f9(l:List St):List Rw:=(ck l l.length).filter (fun r=>!(r.Us==0))
theorem Gg(d:dB w)(b:∀i (e:i<w.length),mV w[i]):∃t,f9 (w++H)=f9 w++t:=by
 have h:∀k,∃t,ck (w++H) (w.length+k)=ck w w.length++t:=by
  intro k
  induction k with
  | zero=>exact⟨[],by rw[QT,Ej w H d b _ (PQ _)];simp⟩
  | succ k c =>
   obtain⟨t,a⟩:=c;exact⟨_,by rw[<-Sj,ck];(conv=>lhs;arg 1;rw[a]);rw[QY]⟩
 obtain⟨t,a⟩:=h H.length;refine⟨t.filter (fun r=>!(r.Us==0)),?_⟩;unfold f9;rw[Qa,a,QD]
theorem zw:eE db:=by unfold eE db;simp
theorem jo:eE cy.2:=by unfold eE cy;simp
theorem BZ{p:Pl}(h:eE p)(c:Int):eE { p with col:=c }:=h
theorem LE(q:eE o)(d:List (ByteArray×Pl))(j:∀x∈d,eE x.2):∀a,(∀s∈a,eE s.at_)->(∀s∈(cO f l o d a).1,eE s.at_)/\eE (cO f l o d a).2.2:=by
 induction d with
 | nil =>
  intro a e;rw[cO];split
  ·exact⟨by simp,q⟩
  ·exact⟨e,jo⟩
 | cons x r m =>
  intro a e;obtain⟨t,p⟩:=x;have g:=j (t,p) (by simp);have i:=fun y u=>j y (Qv _ u);have b:∀k n,∀s∈a++[(⟨k,n,p⟩:gY)],eE s.at_:=by
   intro k n s c;rcases Qo.1 c with c | c
   ·exact e s c
   ·rw[Qn.1 c];exact g
  rw[cO];split
  ·exact m i _ (b _ _)
  ·split
   ·exact⟨by simp,g⟩
   ·exact m i _ (b _ _)
theorem Hl(e:eE o)(b:List (ByteArray×Pl))(d:∀x∈b,eE x.2):∀i a,eE (ci f l o i b a).1.2.2:=by
 induction b with
 | nil=>intro i a;exact e
 | cons x r j =>
  intro i a;obtain⟨t,p⟩:=x;have c:=d (t,p) (by simp);rw[ci];split
  ·exact jo
  ·split
   ·exact c
   ·split
    ·exact c
    ·exact j (fun y g=>d y (Qv _ g)) _ _
def qE(c:iR):Prop:=∀s∈c.steps,eE s.at_
theorem A8(h:qE z1)(s:gY)(b:eE s.at_):∀x∈z1.steps++[s],eE x.at_:=by
 intro x a;rcases Qo.1 a with a | a
 ·exact h x a
 ·rw[Qn.1 a];exact b
theorem IP(h:qE z1)(n:Nat)(p:Pl)(a:eE p):qE (bU z1 n p).2:=by
 unfold bU;split
 ·unfold gC;split
  ·exact A8 h _ a
  ·split
   ·exact A8 h _ a
   ·exact h
 ·split
  ·unfold iO;split <;> exact h
  ·split
   ·exact h
   ·split
    ·exact A8 h _ a
    ·exact h
theorem Mz(a:eE o)(f:Nat):∀j c,qE c->qE (eH L o f j c).2/\eE (eH L o f j c).1.2:=by
 induction f with
 | zero=>intro j c h;exact⟨h,jo⟩
 | succ f b =>
  intro j c h;rw[eH];split
  ·split
   ·exact b _ _ (IP h _ _ (BZ a _))
   ·exact⟨IP h _ _ (BZ a _),BZ a _⟩
  ·exact⟨h,jo⟩
theorem Kg(a:List (ByteArray×Pl))(d:∀x∈a,eE x.2):∀c,qE c->qE (jI a c).2/\eE (jI a c).1.2:=by
 induction a with
 | nil=>intro c h;exact⟨h,jo⟩
 | cons x r f =>
  intro c h;obtain⟨t,p⟩:=x;have b:=Mz t p (d (t,p) (by simp)) (t.size+1) 0 c h;rw[jI];split
  ·exact f (fun y e=>d y (Qv _ e)) _ b.1
  ·exact b
theorem NG(a:eE T.fin)(b:∀x∈T.Ux,eE x.2):(∀x∈(eB f n T).1,eE x.at_)/\eE (eB f n T).2.2:=by
 unfold eB;split
 ·unfold gZ;have e:qE (qK f n T).2/\eE (qK f n T).1.2:=by
   unfold qK Cf;split
   ·exact Kg _ (fun y d=>b y (Sr d)) _ (by intro x c;cases c)
   ·exact⟨(by intro x c;cases c),Hl f n T.fin a _ (fun y d=>b y (Sr d)) _ _⟩
  unfold oK;split
  ·split
   ·split
    ·exact⟨by simp,a⟩
    ·exact⟨e.1,jo⟩
   ·exact⟨by simp,a⟩
  ·exact⟨by simp,e.2⟩
 ·exact LE f n T.fin a T.Ux b [] (by simp)
theorem LO(c:eE o)(b:List ByteArray)(a:List gY)(h:∀x∈a,eE x.at_):∀S,eE (dM H M N o b a S).2:=by
 induction a with
 | nil =>
  intro S;rw[dM];unfold PI;split
  ·exact c
  ·split
   ·exact jo
   ·exact c
  ·exact c
 | cons s r e =>
  intro S;rw[dM];split
  ·exact e (fun y d=>h y (Qv _ d)) _
  ·exact h s (by simp)
theorem IN(d:eE T.fin)(g:∀c∈T.Ux,eE c.2):eE (dP f n T x).at_:=by
 have b:=NG f n T d g;unfold dP;have a:eE (if(ub (eB f n T).1).isNone=XL/\((eB f n T).2.1==0)=XL then dH f n T (eB f n T).1 else(eB f n T).2).2:=by
  split
  ·exact LO _ _ _ _ d _ _ b.1 _
  ·exact b.2
 generalize (if(ub (eB f n T).1).isNone=XL/\((eB f n T).2.1==0)=XL then dH f n T (eB f n T).1 else(eB f n T).2)=i at *;unfold iu;split
 ·split
  ·next u j =>
   show eE (((eB f n T).1[u]?).map gY.at_ |>.getD db);cases e:(eB f n T).1[u]? with
   | none=>exact zw
   | some c=>exact b.1 c (Qp e)
  ·split <;> exact zw
 ·exact a
theorem OR(h:MI H)(k:Nat):∀r∈ck H k,eE r.at_:=by
 induction k with
 | zero=>intro r a;cases a
 | succ k d =>
  intro r a;rw[ck]at a;rcases Qo.1 a with a | a
  ·exact d r a
  ·rw[Qn.1 a];unfold gL;split
   ·next s c =>
    have b:=h s (Qp c);split
    ·exact zw
    ·split
     ·exact IN H k s _ b.1 b.2
     ·exact zw
   ·exact zw
theorem GV.rows(h:GV S):yb (f9 S):=by
 refine⟨?_,fun r b=>OR S h.lns _ r (QL.1 b).1⟩;have a:=Q6 (fun r:Rw=>!(r.Us==0)) (ck S S.length);rw[iw]at a;have:=h.ok.len;unfold f9;omega
def bu(T:ByteArray):List Rw:=f9 (aJ T).2.UD
theorem Gi(c:ByteArray)(a:dV L):∃m,bu (L++⟨#[10]⟩++c)=bu L++m:=by
 obtain⟨m,b⟩:=IU L c a;have g:=iB L a.size a.inc;unfold bu;rw[b];exact Gg _ m g.ok g.prf
end Go.Proofs.YtnbalopedcgpcaaGreat
