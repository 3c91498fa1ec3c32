import Derived.Test.YtnbhnocdhbcbcaaGreatG21
namespace Go.Proofs.YtnbhnocdhbcbcaaGreat
open Go.RowKit Tryz
open Value IntKind Ending
set_option maxHeartbeats 0
variable{T:List (jM×Hd)}{S:List fO}{H o:Nat}{y:List Bool}{x i:World}{L:Hd}(D:List Tk)(d:List Sm)(k:List (jM×Hd))(a:List fO)(f:List Bool)(n l:Nat)
def jU(PS:List (jM×Hd))(t:Nat):jM×Hd:=PS.getD t (⟨[],0,⟨#[]⟩,0,0⟩,⟨none,0⟩)
theorem AT(h:l<k.length):k[l]?=some (jU k l):=by
 unfold jU;rw[RT,RQ h];rfl
def fz(PS:List (jM×Hd))(RS:List fO)(a k:Nat):Prop:=∀P:Nat->Prop,P a->(∀t k i:Nat,P t->di RS t=true->i<(jU PS t).1.st.length->(bK (jU PS t).1.st i).ref=(k:Int)->P k)->P k
theorem fz.self:fz T S H H:=fun _ h _=>h
theorem fz.step{t i:Nat}(h:fz T S H t)(c:di S t=true)(d:i<(jU T t).1.st.length)(e:(bK (jU T t).1.st i).ref=(o:Int)):fz T S H o:=fun P b a=>a t o i (h P b a) c d e
def wf(PS:List (jM×Hd))(RS:List fO)(inn:List Bool)(t:Nat):Prop:=inn.getD t false=true->di RS t=true->∀i,i<(jU PS t).1.st.length->∀k:Nat,(bK (jU PS t).1.st i).ref=(k:Int)->inn.getD k false=true
structure wg(PS:List (jM×Hd))(RS:List fO)(a:Nat)(inn:List Bool):Prop where
 len:inn.length=a+1
 self:inn.getD a false=true
 sub:∀k,inn.getD k false=true->fz PS RS a k
theorem Aw(h:l<f.length):f[l]?=some (f.getD l false):=by
 rw[RT,RQ h];rfl
theorem O0(h:f.getD l false=true):(f.set n true).getD l false=true:=by
 rw[RT]at h ⊢;rw[Tl];by_cases e:n=l
 ·rw[RY e];split
  ·rfl
  ·next a=>rw[SG (by omega)]at h;cases h
 ·rw[RU e];exact h
theorem Hj(h:(f.set n true).getD l false=true):l=n∨f.getD l false=true:=by
 by_cases e:n=l
 ·exact R4 e.symm
 ·right
  rw[RT,Tl,RU e,<-RT]at h;exact h
theorem wg.set(h:wg T S H y)(a:fz T S H o):wg T S H (y.set o true) :=
 ⟨by rw[SS];exact h.len,O0 y o H h.self,fun q b=>by
  rcases Hj y o q b with e | e
  ·rw[e];exact a
  ·exact h.sub q e⟩
theorem wg.all(h:wg T S H y)(b:∀t,t<=H->wf T S y t)(k:Nat):y.getD k false=true ↔ fz T S H k:=by
 refine⟨h.sub k,fun f=>?_⟩;refine f (fun k=>y.getD k false=true) h.self (fun t k i a g d c=>?_);have j:t<=H:=by
  have l:=h.len;by_cases e:t<y.length
  ·omega
  ·rw[RT,SG (by omega)]at a;cases a
 exact b t j a g i d k c
def Ri(S:List Sm)(inn:List Bool)(t:Nat):Bool:=inn.getD t false&&((aq S t).k.toList == [36,97])
def QO(S:List Sm)(RS:List fO)(inn:List Bool)(t:Nat):Bool:=inn.getD t false&&(((aq S t).k.toList == [36,112]) && !di RS t)
def NK(T:List Tk)(S:List Sm)(inn:List Bool)(n:Nat):List ByteArray:=((List.range n).filter (Ri S inn)).map (fun t=>bN T (aq S t))
def Ef(T:List Tk)(S:List Sm)(RS:List fO)(inn:List Bool)(n:Nat):List ByteArray:=((List.range n).filter (QO S RS inn)).map (fun t=>bN T (aq S t))
theorem Lo:NK D d f (l+1)=NK D d f l++(if Ri d f l=true then [bN D (aq d l)] else []):=by
 unfold NK;rw[im,SF];split <;> rfl
theorem Lu:Ef D d a f (l+1)=Ef D d a f l++(if QO d a f l=true then [bN D (aq d l)] else []):=by
 unfold Ef;rw[im,SF];split <;> rfl
def Py(T:List Tk)(S:List Sm)(PS:List (jM×Hd))(RS:List fO)(a:Nat)(w:World)(e:Ending)(w':World):Prop :=
 ∃(inn:List Bool) (h1 h2:Hd),(∀k,inn.getD k false=true ↔ fz PS RS a k)/\e=returned (tuple #[slice h1.ao (NK T S inn (a+1)).length h1.cap,slice h2.ao (Ef T S RS inn (a+1)).length h2.cap])/\jd w w' h1 (aG (NK T S inn (a+1)))/\jd w w' h2 (aG (Ef T S RS inn (a+1)))
theorem jd.two{m:World}{c f:Hd}{s d r:eB}(a:jd x i L s)(b:jd x i f r)(n:∀k,L.blk=some k->f.blk≠some k)(g:bI i m L c)(o:aC m c d):jd x m c d/\jd x m f r/\∀k,c.blk=some k->f.blk≠some k:=by
 have p:=a.Wt g o;refine⟨p,⟨g.beside b.own (fun k j l=>n k l j),b.far,p.kept⟩,fun k j l=>?_⟩;rcases g.blk with e | ⟨q,e,t⟩
 ·exact n k (by rw[<-e];exact j) l
 ·have:=b.own.lt l;rw[j]at e;cases e
  omega
theorem jN.out(h:jN x H y):H<x.heap.size:=ae h
theorem GQ(k:List UInt8)(h:(k == [36,97])=true):(k == [36,112])=false:=by
 have:=Vc h;rw[this];rfl
set_option maxRecDepth 100000
theorem C7(a:Nat)(T:List Tk)(ch:Option Addr)(cT:Nat)(S:List Sm)(a1:Option Addr)(cS:Nat)(x0 x1:Value)(u:List (jM×Hd))(a0:Option Addr)(cP:Nat)(v:List fO)(cf:Option Addr)(cR:Nat)(w:World)(hD:fZ w l T ch cT S a1 cS)(hJ:Pm w n l x0 x1 u a0 cP v cf cR)(dv:a<u.length)(dz:a<v.length)(dT:a<S.length)(ha:a<=10000)(hA:∀j,j<=a->(aq S j).a<T.length)(cj:∀t,t<=a->(jU u t).1.st.length<=100000000/\∀i,i<(jU u t).1.st.length->(bK (jU u t).1.st i).ref<=(a:Int)) :
  Calls prog 68 #[pointer (some ⟨n,0,none⟩),int i64 a] w fun e z=>Py T S u v a w e z:=by
 obtain⟨i1,c3,c8,c9,db⟩:=Sr Mf;obtain⟨iS,cl,ba,bc,be⟩:=Sr lA;have m2:=fun w=>dH (P:=prog) w 134 4 i1 _ underlying134 c3 c8 (a+1) 1 c9 (by rw[db];omega) (by omega);obtain⟨mc,b6⟩:∃mc,Hid (madeCells (bool false).cells ((a+1)*1)=mc):=⟨_,rfl⟩
 have b0:Hid (mc=((List.replicate (a+1) false).map bool).toArray):=by show _=_;rw[<-b6.out,xi]
 rw[b6.out]at m2;have c1:((a+1:Nat):Int)=(a:Int)+1:=by omega
 have m3:=m2 w;rw[c1]at m3;obtain⟨W,HW⟩:∃W,Hid (w.alloc (.cells (mc.setIfInBounds a (bool true)) 4)=W):=⟨_,rfl⟩
 have aT:jN (w.alloc (.cells mc 4)) w.heap.size (List.replicate (a+1) false):=by
  unfold jN;rw[b0.out];exact R2 _ _
 have cb:Hid (jN W w.heap.size ((List.replicate (a+1) false).set a true)):=by
  show jN _ _ _;unfold jN;rw[<-HW.out,b0.out];refine(R2 _ _).trans ?_;congr 2;rw[SV,UE]
 have cz:Hid _:=fN HW.out;have ca:Hid (wg u v a ((List.replicate (a+1) false).set a true)):=by
  refine⟨by simp,by rw[RT,List.getElem?_set_self (by simp)];rfl,fun k hk=>?_⟩;rcases Hj _ a k hk with e | e
  ·rw[e];exact fz.self
  ·rw[RT,TJ]at e;split at e <;> cases e
 have c0:(w.alloc (.cells mc 4)).cell? ⟨w.heap.size,a,none⟩=some (bool false):=aT.cell a false (by rw[TJ,RY (by omega)]);have f0:=am aT a;have z0:=ae aT;have d0:(a:Int)<(a:Int)+1:=by omega
 have HD:Hid _:=hD;have HJ:Hid _:=hJ;have HA:Hid _:=hA;have cE:Hid _:=cj;have b3:Hid (∀t,t<=a->∀wx,aa [] w wx->Calls prog 67 #[pointer (some ⟨n,0,none⟩),int i64 t] wx fun e z=>e=returned (bool (di v t))/\z=wx):=fun t ht wx kx=>Ki n l t x0 x1 u a0 cP v cf cR wx (hJ.Wj kx) (by omega);clear hD hJ hA cj aT m2;go_enter func68,ntmps68;go_upto_region 3 with fail
 rw[HW.out];clear c0 f0 z0 m3;go_wp2;obtain⟨O,cx⟩:∃O,Hid ((List.replicate (a+1) false).set a true=O):=⟨_,rfl⟩
 rw[cx.out]at cb ca
 go_loopg [7] (2*aU O+1) (fun g ag wr=>∃(f:Bool) (b:List Bool),ag=bool f/\g=2*aU b+(if f=true then 1 else 0)/\Hid (wg u v a b)/\Hid (f=false->∀t,t<=a->wf u v b t)/\Hid (jN wr w.heap.size b)/\Hid (aa [] w wr))
 case atStart=>exact⟨true,O,rfl,rfl,ca,(fun h=>by cases h),cb,cz⟩
 case round =>
  obtain⟨f,b,rfl,hg,o,bj,m,E⟩:=hrel;cases f
  ·have ct:Hid _:=wg.all o.out (bj.out rfl);have HL:Hid _:=o.out.len;obtain⟨w1,br⟩:∃w1,Hid (wr=w1):=⟨_,rfl⟩
   rw[br.out];rw[br.out]at m E;clear br bj hg;have b1:Hid (jd w1 w1 ⟨none,0⟩ (aG [])):=⟨Sb _ _ _ _,(by intro k hk;cases hk),aa.refl _ _⟩;have cq:Hid (([]:List ByteArray)=NK T S b 0):=rfl;have cu:Hid (([]:List ByteArray)=Ef T S v b 0):=rfl;go_wp2
   go_loopg [12,13,14] (a+1) (fun g ax bd tv wr=>∃(t:Nat) (U V:Hd) (A B:List ByteArray),t<=a+1/\g=a+1-t/\ax=slice U.ao A.length U.cap/\bd=slice V.ao B.length V.cap/\tv=int i64 t/\(A.length<=t/\B.length<=t)/\Hid (A=NK T S b t)/\Hid (B=Ef T S v b t)/\Hid (jd w1 wr U (aG A))/\Hid (jd w1 wr V (aG B))/\Hid (∀k,U.blk=some k->V.blk≠some k))
   case atStart=>exact⟨0,⟨none,0⟩,⟨none,0⟩,[],[],by omega,rfl,rfl,rfl,rfl,⟨RV _,RV _⟩,cq,cu,b1,b1,(by intro k hk;cases hk)⟩
   case round =>
    obtain⟨t,U,V,A,B,ht,c2,rfl,rfl,rfl,⟨dp,ds⟩,bf,bg,aS,b5,X⟩:=hrel;by_cases an:t<=a
    ·have bv:(t:Int)<=(a:Int):=(by omega);have ap:t<S.length:=(by omega);have bz:Hid _:=E.out.trans aS.out.kept;have bT:Hid (Calls prog 88 #[pointer (some ⟨l,0,none⟩),int i64 t] wr fun e z=>e=returned (string (bN T (aq S t)))/\aa [] wr z):=by
      have:=qI l t T ch cT S a1 cS wr (fZ.Wj HD.out bz.out) ap (by rw[bQ S t ap];exact HA.out t an);rw[bQ S t ap]at this;exact this
     have H:Hid (∀z:World,aa [] w1 z->z.cell? ⟨w.heap.size,t,none⟩=some (bool (b.getD t false))/\w.heap.size<z.heap.size/\z.cell? ⟨n,2,none⟩=some (pointer (some ⟨l,0,none⟩))/\n<z.heap.size/\∃gs,a1=some ⟨gs,0,none⟩/\gs<z.heap.size/\z.cell? ⟨l,1,none⟩=some (slice a1 S.length cS)/\l<z.heap.size/\z.cell? ⟨gs,t*4+3,none⟩=some (string (aq S t).k)):=fun z kw=>by
      have hs:=jN.kept m.out kw (by simp);have hd:=fZ.Wj HD.out (E.out.trans kw);have hj:=Pm.Wj HJ.out (E.out.trans kw);obtain⟨-,s0,hb⟩:=hd.cells;obtain⟨gs,e3,a4,-,-,-,q3⟩:=hd.s.2 t S[t] (RQ ap);rw[bQ S t ap]at q3;exact⟨hs.cell t _ (Aw b t (by rw[HL.out];omega)),hs.out,by rw[aj hj.d];rfl,ae hj.d,gs,e3,a4,s0,hb,q3⟩
     have y:Hid _:=b3.out t an;have ad:Hid _:=Lo T S b t;have K:Hid _:=Lu T S v b t;rw[<-bf.out]at ad;rw[<-bg.out]at K;have bk:Hid (Ri S b t=(b.getD t false&&((aq S t).k.toList == [36,97]))):=rfl;have Q:Hid (QO S v b t=(b.getD t false&&(((aq S t).k.toList == [36,112]) && !di v t))):=rfl;obtain⟨sd,af⟩:∃sd,Hid (di v t=sd):=⟨_,rfl⟩
     rw[af.out]at y Q;obtain⟨x,Hx⟩:∃x,Hid (bN T (aq S t)=x):=⟨_,rfl⟩
     rw[Hx.out]at bT ad K;generalize (aq S t).k=sk at *;generalize b.getD t false=ib at *;obtain⟨-,-,v2,cp,-⟩:=H.out wr aS.out.kept;(go_upto_region 23 with (go_at_call 88;refine R0 bT.out ?_;rintro e w2 ⟨rfl,k2⟩));have ac:Hid _:=k2;clear k2 v2 cp;have b4:Hid _:=y.out w2 (bz.out.trans ac.out);(go_upto_region 24 with (go_at_call 67;refine R0 b4.out ?_;rintro e w3 ⟨rfl,C⟩;rw[C];clear C));have L:Hid _:=aS.out.Wj ac.out;have R:Hid _:=b5.out.Wj ac.out;obtain⟨y0,y1,y2,y3,gs,rfl,a4,s0,cX,q3⟩:=H.out w2 L.out.kept;have d8:(t:Int)<S.length:=(by omega);have c7:(t:Int)<(a:Int)+1:=(by omega);have c6:(0:Int)<=(t:Int):=(by omega);cases ib
     ·have J:Hid (A=NK T S b (t+1)):=(by show _=_;rw[ad.out,bk.out];simp);have F:Hid (B=Ef T S v b (t+1)):=(by show _=_;rw[K.out,Q.out];simp);go_wp2;go_roundg (a+1-(t+1))
      case measure=>omega
      case rel=>exact⟨t+1,U,V,A,B,by omega,rfl,rfl,rfl,by go_num,⟨by omega,by omega⟩,J,F,L,R,X⟩
     ·cases a5:(sk.toList == [36,97])
      ·have J:Hid (A=NK T S b (t+1)):=(by show _=_;rw[ad.out,bk.out,a5];simp);cases al:(sk.toList == [36,112])
       ·have F:Hid (B=Ef T S v b (t+1)):=(by show _=_;rw[K.out,Q.out,al];simp);go_wp2;go_roundg (a+1-(t+1))
        case measure=>omega
        case rel=>exact⟨t+1,U,V,A,B,by omega,rfl,rfl,rfl,by go_num,⟨by omega,by omega⟩,J,F,L,R,X⟩
       ·cases sd
        ·have F:Hid (B++[x]=Ef T S v b (t+1)):=(by show _=_;rw[K.out,Q.out,al];simp);have a3:=R.out.own;have a2:(aG B).n<=900000000:=(by show B.length<=_;omega);go_wp2_with (at_builtin;refine ci _ rfl (.tmp 136) (.tmp 138) 61 rfl iS (string ⟨#[]⟩) 16 V (aG B) [string x] underlying61 cl ba bc be rfl So rfl a3 a2 (by omega) rfl rfl (by simp[Value.oneCell']) ?_;intro h5 w5 N ai;rw[fj]at N;have G:Hid _:=(jd.two R.out L.out (fun k hk hq=>X.out k hq hk) ai N);clear N ai);go_roundg (a+1-(t+1))
         case measure=>omega
         case rel=>exact⟨t+1,U,h5,A,B++[x],by omega,rfl,rfl,by simp[aG],by go_num,⟨by omega,by simp;omega⟩,J,F,G.out.2.1,G.out.1,(fun k hk hq=>G.out.2.2 k hq hk)⟩
        ·have F:Hid (B=Ef T S v b (t+1)):=(by show _=_;rw[K.out,Q.out,al];simp);go_wp2;go_roundg (a+1-(t+1))
         case measure=>omega
         case rel=>exact⟨t+1,U,V,A,B,by omega,rfl,rfl,rfl,by go_num,⟨by omega,by omega⟩,J,F,L,R,X⟩
      ·have al:=GQ _ a5;have J:Hid (A++[x]=NK T S b (t+1)):=(by show _=_;rw[ad.out,bk.out,a5];simp);have F:Hid (B=Ef T S v b (t+1)):=(by show _=_;rw[K.out,Q.out,al];simp);have a3:=L.out.own;have a2:(aG A).n<=900000000:=(by show A.length<=_;omega);(go_upto_region 26 with (at_builtin;refine ci _ rfl (.tmp 110) (.tmp 112) 61 rfl iS (string ⟨#[]⟩) 16 U (aG A) [string x] underlying61 cl ba bc be rfl So rfl a3 a2 (by omega) rfl rfl (by simp[Value.oneCell']) ?_;intro h5 w5 N ai;rw[fj]at N;have G:Hid _:=jd.two L.out R.out X.out ai N;clear N ai));obtain⟨z0,z1,z2,z3,dl,ez,dg,z4,z5,z6⟩:=H.out w5 G.out.1.kept;cases ez
       clear y0 y1 y2 y3 a4 s0 cX q3 a3 a2;go_wp2;go_roundg (a+1-(t+1))
       case measure=>omega
       case rel=>exact⟨t+1,h5,V,A++[x],B,by omega,rfl,by simp[aG],rfl,by go_num,⟨by simp;omega,by omega⟩,J,F,G.out.1,G.out.2.1,G.out.2.2⟩
    ·have et:t=a+1:=(by omega);subst et;have bv:¬(a:Int)+1<=(a:Int):=by omega
     go_wp2;go_ret2;exact⟨b,U,V,ct.out,by rw[<-bf.out,<-bg.out];rfl,by rw[<-bf.out];exact aS.out.base E.out,by rw[<-bg.out];exact b5.out.base E.out⟩
  ·obtain⟨c,Hc⟩:∃c,Hid (aU b=c):=⟨_,rfl⟩
   rw[Hc.out]at hg;have hg:_=2*c+1:=hg;have bw:Hid (aU b<=c):=by show _<=_;rw[Hc.out];omega
   clear bj;go_wp2
   go_loopg [7,8] (a+1) (fun g2 ag tv wr=>∃(t:Nat) (f:Bool) (b:List Bool),t<=a+1/\g2=a+1-t/\ag=bool f/\tv=int i64 t/\Hid (aU b<=c/\(f=true->aU b<c))/\Hid (f=false->∀D,D<t->wf u v b D)/\Hid (wg u v a b)/\Hid (jN wr w.heap.size b)/\Hid (aa [] w wr))
   case atStart=>exact⟨0,false,b,by omega,rfl,rfl,rfl,⟨bw.out,fun h=>by cases h⟩,(fun _ t ht=>absurd ht (U9 t)),o,m,E⟩
   case round =>
    clear bw o m E Hc;obtain⟨t,f,b,ht,c2,rfl,rfl,Y,HT,o,m,E⟩:=hrel;by_cases an:t<=a
    ·have bv:(t:Int)<=(a:Int):=(by omega);have y:Hid _:=b3.out t an wr E.out;have y0:=jN.cell m.out t _ (Aw b t (by rw[o.out.len];omega));have y1:=jN.out m.out;obtain⟨sd,af⟩:∃sd,Hid (di v t=sd):=⟨_,rfl⟩
     rw[af.out]at y;obtain⟨ib,M⟩:∃ib,Hid (b.getD t false=ib):=⟨_,rfl⟩
     rw[M.out]at y0;have c6:(0:Int)<=(t:Int):=by omega
     have c7:(t:Int)<(a:Int)+1:=(by omega);have bo:Hid (wf u v b t->f=false->∀D,D<t+1->wf u v b D):=fun hc h D c5=>by
      by_cases e:D=t
      ·rw[e];exact hc
      ·exact HT.out h D (by omega)
     cases ib
     ·have HM:Hid _:=bo.out (fun h=>by rw[M.out]at h;cases h);go_wp2_with (go_at_call 67;refine R0 y.out ?_;rintro e w3 ⟨rfl,C⟩;rw[C];clear C);go_roundg (a+1-(t+1))
      case measure=>omega
      case rel=>exact⟨t+1,f,b,by omega,rfl,rfl,by go_num,Y,HM,o,m,E⟩
     ·cases sd
      ·have HM:Hid _:=bo.out (fun _ h=>by rw[af.out]at h;cases h);go_wp2_with (go_at_call 67;refine R0 y.out ?_;rintro e w3 ⟨rfl,C⟩;rw[C];clear C);go_roundg (a+1-(t+1))
       case measure=>omega
       case rel=>exact⟨t+1,f,b,by omega,rfl,rfl,by go_num,Y,HM,o,m,E⟩
      ·have cB:Hid _:=o.out.sub t M.out;obtain⟨co,az⟩:=cE.out t an;have az:Hid _:=az;have d7:(t:Int)<u.length:=(by omega);have H:Hid (∀z:World,aa [] w z->∃gP,a0=some ⟨gP,0,none⟩/\gP<z.heap.size/\z.cell? ⟨n,3,none⟩=some (slice a0 u.length cP)/\n<z.heap.size/\z.cell? ⟨gP,t*5,none⟩=some (slice (jU u t).2.ao (jU u t).1.st.length (jU u t).2.cap)/\cG z (jU u t).2.ao 6 lq (jU u t).1.st):=fun z kw=>by
        have hj:=Pm.Wj HJ.out kw;obtain⟨gP,e,ck,cc⟩:=hj.p t _ (AT u t (by omega));exact⟨gP,e,ck,by rw[aj hj.d];rfl,ae hj.d,cc 0 _ rfl,hj.q _ (TG (AT u t (by omega)))⟩
       have a6:Hid (∀b:List Bool,(∀i,i<(jU u t).1.st.length->∀k:Nat,(bK (jU u t).1.st i).ref=(k:Int)->b.getD k false=true)->wf u v b t):=fun _ h _ _=>h;have a7:Hid (∀i,i<(jU u t).1.st.length->∀k:Nat,(bK (jU u t).1.st i).ref=(k:Int)->fz u v a k):=fun i hi k he=>fz.step cB.out af.out hi he;have Z:Hid (f=false->(∀D,D<t->wf u v b D)/\∀i,i<0->∀k:Nat,(bK (jU u t).1.st i).ref=(k:Int)->b.getD k false=true):=fun h=>⟨HT.out h,fun i hi=>by omega⟩
       obtain⟨I,cV⟩:∃I,Hid ((jU u t).1.st=I):=⟨_,rfl⟩
       obtain⟨hd,cL⟩:∃hd,Hid ((jU u t).2=hd):=⟨_,rfl⟩
       rw[cV.out]at H a6 a7 Z co az;rw[cL.out]at H;obtain⟨df,dk⟩:=hd;simp only at H;go_wp2_with (go_at_call 67;refine R0 y.out ?_;rintro e w3 ⟨rfl,C⟩;rw[C];clear C)
       go_loopg [7,10] I.length (fun g3 ag iv wr=>∃(i:Nat) (f:Bool) (b:List Bool),i<=I.length/\g3=I.length-i/\ag=bool f/\iv=int i64 i/\Hid (aU b<=c/\(f=true->aU b<c))/\Hid (f=false->(∀D,D<t->wf u v b D)/\∀i',i'<i->∀k:Nat,(bK I i').ref=(k:Int)->b.getD k false=true)/\Hid (wg u v a b)/\Hid (jN wr w.heap.size b)/\Hid (aa [] w wr))
       case atStart=>exact⟨0,f,b,by omega,rfl,rfl,rfl,Y,Z,o,m,E⟩
       case round =>
        clear Y Z HT o m E bo y0 y1 M y;obtain⟨i,f,b,hi,d1,rfl,rfl,Y,HT,o,m,E⟩:=hrel;obtain⟨gP,rfl,ck,v3,cp,p0,bl⟩:=H.out wr E.out;by_cases bs:i<I.length
        ·have d4:(i:Int)<I.length:=(by omega);obtain⟨gs,es,a4,cs⟩:=bl i _ (Ib I i bs);replace es:df=some ⟨gs,0,none⟩:=es;subst es;have s0:wr.cell? ⟨gs,i*6,none⟩=some (int i64 (bK I i).ref):=cs 0 _ rfl;have cA:Hid _:=az.out i bs;have cF:Hid _:=a7.out i bs
         have b2:Hid (f=false->(∀k:Nat,(bK I i).ref=(k:Int)->b.getD k false=true)->(∀D,D<t->wf u v b D)/\∀i',i'<i+1->∀k:Nat,(bK I i').ref=(k:Int)->b.getD k false=true):=fun h hk=>⟨(HT.out h).1,fun i' d2 k he=>by
          by_cases e:i'=i
          ·subst e;exact hk k he
          ·exact(HT.out h).2 i' (by omega) k he⟩
         generalize (bK I i).ref=r at *;clear cs bl;have d3:(0:Int)<=(i:Int):=by omega
         by_cases c4:(0:Int)<=r
         ·obtain⟨k,rfl⟩:=Int.eq_ofNat_of_zero_le c4;have a5:k<=a:=(by have:=cA.out;omega);have d6:(k:Int)<(a:Int)+1:=(by omega);have y0:=jN.cell m.out k _ (Aw b k (by rw[o.out.len];omega));have y1:=jN.out m.out;have bx:Hid _:=(Aw b k (by rw[o.out.len];omega));obtain⟨ib,M⟩:∃ib,Hid (b.getD k false=ib):=⟨_,rfl⟩
          rw[M.out]at y0 bx;have d5:(0:Int)<=(k:Int):=by omega
          cases ib
          ·have HU:Hid _:=lT b k bx.out;have ar:Hid (aU (b.set k true)<c):=by
            have U:=HU.out;have V:=Y.out.1;show _<_;omega
           have cy:Hid _:=wg.set o.out (cF.out k rfl);obtain⟨W3,bp⟩:∃W3,Hid (wr.setCell ⟨w.heap.size,k,none⟩ (bool true)=W3):=⟨_,rfl⟩
           have cH:Hid (jN W3 w.heap.size (b.set k true)):=(by show jN _ _ _;rw[<-bp.out];exact jN.set m.out k);have ac:Hid (aa [] w W3):=(by show aa [] w W3;rw[<-bp.out];exact E.out.setCell (RZ (by simp)) _);have f0:=am m.out k;(go_upto_region 17 with fail);rw[bp.out];go_wp2;go_roundg (I.length-(i+1))
           case measure=>omega
           case rel=>exact⟨i+1,true,b.set k true,by omega,rfl,rfl,by go_num,⟨Te ar.out,fun _=>ar.out⟩,(fun h=>by cases h),cy,cH,ac⟩
          ·have HM:Hid _:=fun h=>b2.out h (fun q hq=>by rw[show q=k by omega];exact M.out);go_wp2;go_roundg (I.length-(i+1))
           case measure=>omega
           case rel=>exact⟨i+1,f,b,by omega,rfl,rfl,by go_num,Y,HM,o,m,E⟩
         ·have HM:Hid _:=fun h=>b2.out h (fun q hq=>absurd hq (by omega));go_wp2;go_roundg (I.length-(i+1))
          case measure=>omega
          case rel=>exact⟨i+1,f,b,by omega,rfl,rfl,by go_num,Y,HM,o,m,E⟩
        ·have ei:i=I.length:=(by omega);subst ei;have HM:Hid (f=false->∀D,D<t+1->wf u v b D):=fun h D c5=>by
          by_cases e:D=t
          ·rw[e];exact a6.out b (HT.out h).2
          ·exact(HT.out h).1 D (by omega)
         clear bl;go_wp2;go_roundg (a+1-(t+1))
         case measure=>omega
         case rel=>exact⟨t+1,f,b,by omega,rfl,rfl,by go_num,Y,HM,o,m,E⟩
    ·have et:t=a+1:=(by omega);subst et;have bv:¬(a:Int)+1<=(a:Int):=by omega
     have HM:Hid (f=false->∀t,t<=a->wf u v b t):=fun h t ht=>HT.out h t (by omega);have dt:=Y.out.1;have ar:Hid _:=Y.out.2;go_wp2;go_roundg (2*aU b+(if f=true then 1 else 0))
     case measure =>
      cases f
      ·rw[RU (by simp)];omega
      ·have:=ar.out rfl;rw[RY rfl];omega
     case rel=>exact⟨f,b,rfl,rfl,o,HM,m,E⟩
theorem P7:(prog.info? 122).map (fun i=>(i.zero,i.size,i.bytes))=some (some (agg #[slice none 0 0,int i64 0,string ⟨#[]⟩,int i64 0,int i64 0]),5,64):=by kernel_rfl
theorem GN:(prog.info? 38).map (fun i=>(i.zero,i.size,i.bytes))=some (some (agg #[string ⟨#[]⟩,int i64 0,int i64 0,string ⟨#[]⟩,int i64 0,int i64 0]),6,64):=by kernel_rfl
theorem qq(x:jM×Hd):(⟨(gw k).e,(gw k).size,(gw k).n+1,(gw k).xs++OI x⟩:eB)=gw (k++[x]):=jH _ _ _ _ _
theorem sw(x:fO):(⟨(bZ a).e,(bZ a).size,(bZ a).n+1,(bZ a).xs++gx x⟩:eB)=bZ (a++[x]):=jH _ _ _ _ _
theorem cG.keptS{α:Type}{a:Option Addr}{f:α->List Value}{L:List α}{S:List Nat}(h:cG x a H f L)(k:aa S x i)(d:∀g,a=some ⟨g,0,none⟩->g∉S):cG i a H f L:=fun j o m=>by
 obtain⟨g,e,b,c⟩:=h j o m;exact⟨g,e,R6 b k.size,fun n u l=>by rw[Sh (k.block g b (d g e))];exact c n u l⟩
def KU(w:World)(h1 h2:Hd)(x:jM×Hd):Prop:=∀g,x.2.ao=some ⟨g,0,none⟩->w.heap.size<=g/\h1.blk≠some g/\h2.blk≠some g
structure wh(w wr:World)(v b:Nat)(x0 x1:Value)(PS:List (jM×Hd))(h1:Hd)(RS:List fO)(h2:Hd):Prop where
 d:wr.heap[v]?=some (.cells #[x0,x1,pointer (some ⟨b,0,none⟩),slice h1.ao PS.length h1.cap,slice h2.ao RS.length h2.cap] 85)
 lt:v<w.heap.size
 o1:aC wr h1 (gw PS)
 o2:aC wr h2 (bZ RS)
 f1:∀k,h1.blk=some k->w.heap.size<=k
 f2:∀k,h2.blk=some k->w.heap.size<=k
 ap:∀k,h1.blk=some k->h2.blk≠some k
 kept:aa [v] w wr
 q:∀x∈PS,cG wr x.2.ao 6 lq x.1.st/\KU w h1 h2 x
 ql:∀x∈PS,∀g,x.2.ao=some ⟨g,0,none⟩->g<wr.heap.size
variable {w wr w':World} {v b:Nat} {x0 x1:Value} {PS:List (jM×Hd)} {h1 h1':Hd} {RS:List fO} {h2 h2':Hd}
theorem oX{v:Nat}(k:aa [] x i):aa [v] x i:=k.mono (by simp)
theorem wh.Wj(a:wh w wr v b x0 x1 PS h1 RS h2)(k:aa [] wr w'):wh w w' v b x0 x1 PS h1 RS h2 :=
 ⟨k.get a.d (by simp),a.lt,a.o1.Wj k,a.o2.Wj k,a.f1,a.f2,a.ap,a.kept.trans (oX k),fun x c=>⟨(a.q x c).1.Wj k,(a.q x c).2⟩,fun x c g e=>R6 (a.ql x c g e) k.size⟩
theorem wh.jds(a:wh w wr v b x0 x1 PS h1 RS h2):Pm wr v b x0 x1 PS h1.ao h1.cap RS h2.ao h2.cap :=
 ⟨a.d,a.o1.srcG OJ,fun x c=>(a.q x c).1,a.o2.srcG kV⟩
theorem Ah(e:L.ao=some ⟨H,0,none⟩):L.blk=some H:=by unfold Hd.blk;rw[e];rfl
theorem wh.addP(a:wh w wr v b x0 x1 PS h1 RS h2)(x:jM×Hd)(E:cG wr x.2.ao 6 lq x.1.st)(B:KU w h1 h2 x)(t:∀g,x.2.ao=some ⟨g,0,none⟩->g<wr.heap.size)(g:bI wr w' h1 h1')(o:aC w' h1' (gw (PS++[x])))(m:Nat)(C:m=PS.length+1) :
  wh w (w'.setCell ⟨v,3,none⟩ (slice h1'.ao m h1'.cap)) v b x0 x1 (PS++[x]) h1' RS h2:=by
 have u:v∉h1.blk.toList:=fun c=>by have:=a.f1 _ (aQ c);have:=a.lt;omega
 have A:=g.kept.get a.d u;have D:v<wr.heap.size:=ae a.d;have s:aa [v] w' (w'.setCell ⟨v,3,none⟩ (slice h1'.ao m h1'.cap)):=(aa.refl _ _).setCell (R4 (by simp)) _;have j:∀k,h1'.blk=some k->w.heap.size<=k:=fun k f=>by
  rcases g.blk with e | ⟨q,e,c⟩
  ·exact a.f1 k (by rw[<-e];exact f)
  ·rw[f]at e;cases e;exact Sc a.kept.size c
 have i:∀y∈PS++[x],cG wr y.2.ao 6 lq y.1.st/\KU w h1 h2 y/\∀g,y.2.ao=some ⟨g,0,none⟩->g<wr.heap.size:=fun y l=>by
  rcases SB.1 l with h | h
  ·exact⟨(a.q y h).1,(a.q y h).2,a.ql y h⟩
  ·rw[Se]at h;subst h;exact⟨E,B,t⟩
 refine⟨?_,a.lt,?_,?_,j,a.f2,?_,?_,?_,?_⟩
 ·rw[ah A 3];congr 2;rw[C,R9];rfl
 ·exact o.Ws (fun k f e=>by have:=j k f;have:=a.lt;omega) _ _
 ·exact(g.beside a.o2 (fun k f c=>a.ap k c f)).Ws (fun k f e=>by have:=a.f2 k f;have:=a.lt;omega) _ _
 ·intro k f c;rcases g.blk with e | ⟨q,e,t⟩
  ·exact a.ap k (by rw[<-e];exact f) c
  ·have:=a.o2.lt c;rw[f]at e;cases e;omega
 ·refine⟨g.kept.os.trans a.kept.os,g.kept.tape.trans a.kept.tape,g.kept.output.trans a.kept.output,?_,fun k f z=>?_⟩
  ·exact Sc (Sc a.kept.size g.kept.size) s.size
  ·have h1:=a.kept.size;have h2:=g.kept.size;rw[s.block k (by omega) z,g.kept.block k (by omega) (fun c=>by have:=a.f1 _ (aQ c);omega),a.kept.block k f z]
 ·intro y l;obtain⟨F,n,G⟩:=i y l;refine⟨(F.keptS g.kept (fun q e c=>(n q e).2.1 (aQ c))).keptS s (fun q e c=>?_),fun q e=>⟨(n q e).1,fun c=>?_,(n q e).2.2⟩⟩
  ·have:=(n q e).1;have:=a.lt;simp at c;omega
  ·rcases g.blk with p | ⟨r,p,t⟩
   ·exact(n q e).2.1 (by rw[<-p];exact c)
   ·have:=G q e;rw[c]at p;cases p;omega
 ·intro y l q e;have h1:=(i y l).2.2 q e;have h2:=g.kept.size;have H:=s.size;omega
theorem wh.addR(a:wh w wr v b x0 x1 PS h1 RS h2)(x:fO)(g:bI wr w' h2 h2')(o:aC w' h2' (bZ (RS++[x])))(m:Nat)(A:m=RS.length+1) :
  wh w (w'.setCell ⟨v,4,none⟩ (slice h2'.ao m h2'.cap)) v b x0 x1 PS h1 (RS++[x]) h2':=by
 have s:v∉h2.blk.toList:=fun c=>by have:=a.f2 _ (aQ c);have:=a.lt;omega
 have u:=g.kept.get a.d s;have B:v<wr.heap.size:=ae a.d;have p:aa [v] w' (w'.setCell ⟨v,4,none⟩ (slice h2'.ao m h2'.cap)):=(aa.refl _ _).setCell (R4 (by simp)) _;have i:∀k,h2'.blk=some k->w.heap.size<=k:=fun k f=>by
  rcases g.blk with e | ⟨q,e,c⟩
  ·exact a.f2 k (by rw[<-e];exact f)
  ·rw[f]at e;cases e;exact Sc a.kept.size c
 refine⟨?_,a.lt,?_,?_,a.f1,i,?_,?_,?_,?_⟩
 ·rw[ah u 4];congr 2;rw[A,R9];rfl
 ·exact(g.beside a.o1 (fun k f c=>a.ap k f c)).Ws (fun k f e=>by have:=a.f1 k f;have:=a.lt;omega) _ _
 ·exact o.Ws (fun k f e=>by have:=i k f;have:=a.lt;omega) _ _
 ·intro k f c;rcases g.blk with e | ⟨q,e,z⟩
  ·exact a.ap k f (by rw[<-e];exact c)
  ·have:=a.o1.lt f;rw[c]at e;cases e;omega
 ·refine⟨g.kept.os.trans a.kept.os,g.kept.tape.trans a.kept.tape,g.kept.output.trans a.kept.output,?_,fun k f t=>?_⟩
  ·exact Sc (Sc a.kept.size g.kept.size) p.size
  ·have h1:=a.kept.size;have h2:=g.kept.size;rw[p.block k (by omega) t,g.kept.block k (by omega) (fun c=>by have:=a.f2 _ (aQ c);omega),a.kept.block k f t]
 ·intro y n;obtain⟨C,j⟩:=a.q y n;have D:=a.ql y n;refine⟨(C.keptS g.kept (fun q e c=>(j q e).2.2 (aQ c))).keptS p (fun q e c=>?_),fun q e=>⟨(j q e).1,(j q e).2.1,fun c=>?_⟩⟩
  ·have:=(j q e).1;have:=a.lt;simp at c;omega
  ·rcases g.blk with l | ⟨r,l,z⟩
   ·exact(j q e).2.2 (by rw[<-l];exact c)
   ·have:=D q e;rw[c]at l;cases l;omega
 ·intro y n q e;have h1:=a.ql y n q e;have h2:=g.kept.size;have E:=p.size;omega
theorem Qx(RS:List fO)(k:Nat)(h:k<RS.length)(u:Int):(RS.flatMap gx).set (k*6+1) (int i64 u)=(RS.set k { eR RS k with Wk:=u }).flatMap gx:=by
 induction RS generalizing k with
 | nil=>simp at h
 | cons r RS b =>
  cases k with
  | zero=>rfl
  | succ k =>
   have e:(k+1)*6+1=6+(k*6+1):=(by omega);have a:eR (r :: RS) (k+1)=eR RS k:=rfl;rw[a,TZ,SZ,SZ,<-b k (by simpa using h),e,Uq _ _ (by rw[kV];omega),kV];congr 2;omega
theorem wh.put(a:wh w wr v b x0 x1 PS h1 RS h2)(j:h2.ao=some ⟨H,0,none⟩)(k:Nat)(p:k<RS.length)(u:Int):wh w (wr.setCell ⟨H,k*6+1,none⟩ (int i64 u)) v b x0 x1 PS h1 (RS.set k { eR RS k with Wk:=u }) h2:=by
 have i:=Ah j;have o:=a.f2 H i;have m:=a.o2.lt i;have r:=a.lt;have c:aa [H] wr (wr.setCell ⟨H,k*6+1,none⟩ (int i64 u)):=(aa.refl _ _).setCell (R4 (by simp)) _;refine⟨?_,a.lt,?_,?_,a.f1,a.f2,a.ap,?_,?_,?_⟩
 ·rw[c.get a.d (by simp;omega),SS]
 ·exact a.o1.Ws (fun q f e=>a.ap q f (by rw[e];exact i)) _ _
 ·have:=a.o2.putAt j (k*6+1) (int i64 u);have e:(⟨(bZ RS).e,(bZ RS).size,(bZ RS).n,(bZ RS).xs.set (k*6+1) (int i64 u)⟩:eB)=bZ (RS.set k { eR RS k with Wk:=u }):=by
   show(⟨_,_,RS.length,(RS.flatMap gx).set (k*6+1) (int i64 u)⟩:eB)=_
   rw[Qx RS k p u];unfold bZ kT;rw[SS]
  rw[e]at this;exact this
 ·exact⟨c.os.trans a.kept.os,c.tape.trans a.kept.tape,c.output.trans a.kept.output,Sc a.kept.size c.size,fun q f s=>by
   have:=a.kept.size;rw[c.block q (by omega) (by simp;omega),a.kept.block q f s]⟩
 ·intro y g;exact⟨(a.q y g).1.keptS c (fun q e f=>by simp at f;subst f;exact((a.q y g).2 q e).2.2 i),(a.q y g).2⟩
 ·intro y g q e;exact R6 (a.ql y g q e) c.size
end Go.Proofs.YtnbhnocdhbcbcaaGreat
