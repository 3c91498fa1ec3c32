import Derived.Deep.RegionHeld3
import Derived.Test.YtpdholcaobgofaaGreatP14
namespace Go.Proofs.YtpdholcaobgofaaGreat
open Go.RowKit Tryz
open Value IntKind Ending
set_option maxHeartbeats 0
variable{k s zf:World}{x z0 z5:Nat}{g:Fs}{c:List Bool}{z4 z6:Hd}{v m:List Tk}{z7:Nat->List Bool->List Tk->List Tk×List Bool}{M:Tk}{N:Xr}{u zt:Xt}{z8:Xs}(L:Nat)(f:Fs)(n:Nat)(o:Xr)(l:Nat)(H:List Tk)(i:Xs)(I:Xt)(D:Nat)(d:Xr)(S:World)(y:Nat)
def QB(w:World)(gs:Nat)(sn:List Bool)(h:Hd)(out:List Tk)(R:List Tk×List Bool)(e:Ending)(w':World):Prop :=
 ∃h',e=returned (slice h'.ao R.1.length h'.cap)/\aD w' h' (jL R.1)/\kV w' gs R.2/\yV w w' gs h h'/\R.2.length=sn.length/\R.1.length+2000*a8 R.2<=out.length+2000*a8 sn/\a8 R.2<=a8 sn
structure Qo(w wr:World)(gf cap:Nat)(fs:Fs)(gs:Nat)(sn:List Bool)(h h':Hd)(O:List Tk)(gT capT:Nat)(T:List Tk):Prop where
 i:uS wr gf cap fs gs sn h' O
 r:yV w wr gs h h'
 t:aD wr ⟨some ⟨gT,0,none⟩,capT⟩ (jL T)
 b1:h'.Zbx≠some gT
 b2:gT≠gs
section
variable {w wr wr':World} {gf cap:Nat} {fs:Fs} {gs:Nat} {sn sn':List Bool} {h h' h'':Hd} {O O':List Tk} {gT capT:Nat} {T:List Tk}
theorem Qo.turn(a:Qo w wr gf cap fs gs sn h h' O gT capT T)(r:yV wr wr' gs h' h'')(o:aD wr' h'' (jL O'))(s:kV wr' gs sn'):Qo w wr' gf cap fs gs sn' h h'' O' gT capT T:=by
 have f:gT<wr.heap.size:=a.t.lt rfl;refine⟨a.i.turn r o s,a.r.trans r,a.t.Zbo (fun q c=>r.Zbw.block q (a.t.lt c) (fun b=>?_)),?_,a.b2⟩
 ·have e:q=gT:=by cases c;rfl
  subst e;rcases Yd.1 b with e | b
  ·exact a.b2 e
  ·exact a.b1 (aX b)
 ·rcases r.Zbx with e | ⟨g,e,d⟩
  ·rw[e];exact a.b1
  ·rw[e];intro q;cases q;omega
theorem Qo.Zbt(a:Qo w wr gf cap fs gs sn h h' O gT capT T)(g:bL wr wr' h' h'')(o:aD wr' h'' (jL O')):Qo w wr' gf cap fs gs sn h h'' O' gT capT T :=
 a.turn (yV.of g) o (a.i.seen.Zbw g.Zbw (fun b=>a.i.a1 (aX b)))
theorem Qo.Zbj(a:Qo w wr gf cap fs gs sn h h' O gT capT T)(k:aa [] wr wr'):Qo w wr' gf cap fs gs sn h h' O gT capT T :=
 a.Zbt (bL.Zbj k) (a.i.ZbH.Zbj k)
end
theorem rI{b:List Bool}{j d:Nat}{T:List Tk}{R:List Tk×List Bool}(a:Qo k s x z0 g z5 b z4 z6 m j d T)(e:R=(m,b))(o:b.length=c.length)(l:m.length+2000*a8 b<=v.length+2000*a8 c)(n:a8 b<=a8 c){f:Nat}(p:f=m.length):QB k z5 c z4 v R (returned (slice z6.ao f z6.cap)) s:=by
 subst e;subst p;exact⟨z6,rfl,a.i.ZbH,a.i.seen,a.r,o,l,n⟩
theorem Dm(h:((M.ZbG==0)&&(M.s.toList == []))=true):dr z7 g (M :: v) c m=((if dR m=true then m else m++[uG M 7]),c):=by
 rw[dr.eq_def];simp only;rw[XA h]
theorem KJ(h:((M.ZbG==0)&&(M.s.toList == []))=false)(a:(M.s.toList == [36,91])=false):dr z7 g (M :: v) c m=dr z7 g v c (m++[M]):=by
 rw[dr.eq_def];simp only;rw[Xz (by rw[h];simp),XA a]
theorem O6(h:((M.ZbG==0)&&(M.s.toList == []))=false)(a:(M.s.toList == [36,91])=true)(b:dR m=false):dr z7 g (M :: v) c m=(m++[uG M 4],c):=by
 rw[dr.eq_def];simp only;rw[Xz (by rw[h];simp),Xz (by rw[a];simp),XA b]
theorem Is{a:Tk}(h:((M.ZbG==0)&&(M.s.toList == []))=false)(d:(M.s.toList == [36,91])=true)(e:dR m=true)(f:(dX g a.s a.ZbG==0)=false):dr z7 g (M :: a :: v) c m=(m++[uG a (dX g a.s a.ZbG)],c):=by
 rw[dr.eq_def];simp only;rw[Xz (by rw[h];simp),Xz (by rw[d];simp),Xz (by rw[e];simp)];cases v with
 | nil=>rfl
 | cons b v=>simp only;rw[XA f]
theorem O4{rec:Nat->List Bool->List Tk->List Tk×List Bool}{fs:Fs}{t a b:Tk}{r:List Tk}{sn:List Bool}(h:((t.ZbG==0)&&(t.s.toList == []))=false)(c:(t.s.toList == [36,91])=true)(d:dR v=true)(e:(dX fs a.s a.ZbG==0)=true):dr rec fs (t :: a :: b :: r) sn v =
  if(eN b.s b.ZbG==0)=false then(v++[uG b (eN b.s b.ZbG)],sn)
  else if sn.getD (bV fs a.s).toNat true=true then dr rec fs r sn v
  else if fD (rec (bV fs a.s).toNat sn v).1=true then rec (bV fs a.s).toNat sn v
  else dr rec fs r (rec (bV fs a.s).toNat sn v).2 (rec (bV fs a.s).toNat sn v).1:=by
 rw[dr.eq_def];simp only;rw[Xz (by rw[h];simp),Xz (by rw[c];simp),Xz (by rw[d];simp),Xz (by rw[e];simp)]
theorem Gt(a:Fs)(i:Nat):ee d a i<(i:Int)+a.length∨a.length=0:=by
 induction a generalizing i with
 | nil=>exact XK rfl
 | cons f r b =>
  left
  rw[ee];split
  ·simp;omega
  ·rcases b (i+1) with h | h
   ·simp at h ⊢;omega
   ·rw[XY h,ee];simp;omega
theorem Va(h:0<=bV g N):bV g N<g.length:=by
 unfold bV at h ⊢;rcases Gt N g 0 with e | e
 ·simpa using e
 ·rw[XY e,ee]at h;omega
theorem Kq{r:Int}(h:(dX g N r==0)=true):(N.toList == [])=false/\0<=bV g N:=by
 unfold dX at h;cases a:(r==0)
 ·rw[XA a,a]at h;cases h
 ·rw[Xz (by rw[a];simp)]at h;cases b:(N.toList == [])
  ·rw[Xz (by rw[b];simp)]at h;refine⟨rfl,?_⟩;split at h
   ·cases h
   ·split at h
    ·cases h
    ·omega
  ·rw[XA b]at h;cases h
set_option maxRecDepth 100000
theorem O8(cE:f.length<=4)(cf:∀k,(ak f k).size<=1024)(n:Nat):∀(k:Nat) (m:List Bool) (j:List Tk) (h:Hd) (M G:Nat) (w:World),a8 m<=n->m.length=f.length->f.length<=G->k<f.length->m[k]?=some false->j.length+2000*a8 m<=100000->uS w D y f M m h j ->
  Calls prog 81 #[slice (some ⟨D,0,none⟩) f.length y,int i64 k,slice (some ⟨M,0,none⟩) f.length G,slice h.ao j.length h.cap] w fun e w'=>QB w M m h j (fh f n k m j) e w':=by
 induction n with
 | zero=>intro k m j h M G w hn b0 bz hk hs;have:=LA m k hs;omega
 | succ n ih =>
  intro k m j h M G w hn b0 bz hk hs hb hI;have b6:Xq _:=ih;clear ih;have cP:(k:Int)<f.length:=by omega
  have s0:=hI.seen.cell k false hs;have s1:=zcW hI.seen k;have k1:aa [M] w (w.setCell ⟨M,k,none⟩ (bool true)):=(aa.refl [M] w).sl1 _;obtain⟨w1,aq⟩:=aP (w.setCell ⟨M,k,none⟩ (bool true));rw[aq.o]at k1;have R1:yV w w1 M h h:=⟨k1.mono (fun x hx _=>by simp at hx;simp[hx]),XQ rfl⟩;have a4:uS w1 D y f M (m.set k true) h j:=hI.turn R1 (hI.ZbH.Zbo (fun q hq=>k1.block q (hI.ZbH.lt hq) (by simp;intro e;exact hI.a1 (by rw[<-e];exact hq)))) (by rw[<-aq.o];exact hI.seen.set k);have hu:=nu m k hs;have ck:(m.set k true).length=f.length:=by rw[Yq];exact b0
  obtain⟨cz,e1,ch,c0,c1⟩:=a4.src.2 k hk;cases e1
  have cB:=cf k;have be:Xq _:=IZ f k;have ai:Xq _:=Ud f k;have bg:Xq _:=PZ f k;have HT:Xq (uN f k=cC false (jE (aI f k) (ak f k))):=rfl;have HR:Xq (fh f (n+1) k m j=dr (fh f n) f (uN f k) (m.set k true) j):=rfl;have bm:Xq _:=BI (aI f k) (ak f k);have cu:=DM (aI f k) (ak f k);obtain⟨R,b8⟩:=aP (fh f (n+1) k m j);rw[b8.o]at HR ⊢;have ag:Xq _:=a4;have ba:Xq _:=R1;clear a4 R1 k1 hI;go_enter func81,ntmps81;go_upto_region 2 with fail
  rw[aq.o];go_upto_region 3 with (go_at_call 114;refine(LN _ _ _ (by omega)).mono ?_;rintro e w2 ⟨hW,rfl,oW,kW,fW⟩)
  have J:Xq _:=(NB (jE (aI f k) (ak f k)) hW.ao hW.cap w2 (by omega) oW.src (fun t ht=>by have:=bm.o t ht;omega));rw[<-HT.o]at J;go_upto_region 4 with (go_at_call 115;refine(Xx J.o ?_);rintro e w3 ⟨hT,rfl,bT⟩)
  obtain⟨T,cb⟩:=aP (uN f k);rw[cb.o]at be ai bg HR bT ⊢;have cd:0<T.length:=by
   obtain⟨u,e1,-⟩:=ai.o;cases T with
   | nil=>cases e1
   | cons _ _=>simp
  obtain⟨gT,eT,cF,bp⟩:=t9 bT.ZbH cd;obtain⟨cy,V⟩:=hT;simp only at eT;subst eT;have bp:T.length<=V:=bp;have cA:T.length<=1026:=by have:=be.o;omega
  have ca:Xq (Qo w w3 D y f M (m.set k true) h h j gT V T):=by
   have f1:=bT.far gT rfl;have f2:=kW.size;have f3:=ah ag.o.seen;refine⟨(ag.o.Zbj kW).Zbj bT.Zbw,ba.o.trans (yV.of (bL.Zbj (kW.trans bT.Zbw))),bT.ZbH,fun e=>?_,by omega⟩;have:=ag.o.ZbH.lt e;omega
  obtain⟨U1,a3⟩:=aP (a8 (m.set k true));obtain⟨U,L⟩:=aP (a8 m);rw[a3.o]at hu;rw[L.o]at hu hn hb;clear c0 c1 s0 s1 ch ag ba aq oW kW fW J bT bm HT cu;go_wp2
  go_loopg [3,11] T.length (fun g o i wr=>∃(q:Nat) (P:Hd) (O:List Tk) (c:List Bool),q<=T.length/\g=T.length-q/\o=slice P.ao O.length P.cap/\i=int i64 q/\(O.length+2000*a8 c<=j.length+q+2000*U1/\a8 c<=U1/\c.length=f.length)/\Xq (dr (fh f n) f (T.drop q) c O=R)/\Xq (Qo w wr D y f M c h P O gT V T))
  ·exact⟨0,h,j,m.set k true,by omega,rfl,rfl,rfl,⟨by rw[a3.o];omega,by rw[a3.o];omega,ck⟩,by show _=_;rw[ZaJ];exact HR.o.symm,ca⟩
  obtain⟨q,P,O,c,hq,hg,rfl,rfl,⟨z1,z2,z3⟩,HE,K⟩:=hrel;obtain⟨U2,d⟩:=aP (a8 c);rw[d.o]at z1 z2;rcases kn q T.length with ⟨av,cR⟩ | ⟨av,-⟩
  ·obtain⟨c0,c1,c2,c3,c4⟩:=tL K.o.t rfl q T[q] (Xv av);have HD:Xq _:=X0 av;have a6:Xq ((T[q].s.toList == [])=false->q+1<T.length):=fun he=>yS.next ai.o q _ (Xv av) he;rw[HD.o]at HE;obtain⟨bw,N⟩:=aP (dR O);have aS:Xq _:=(Ed O P.ao P.cap wr (by omega) K.o.i.ZbH.src);rw[N.o]at aS;have cH:gT<wr.heap.size:=K.o.t.lt rfl;generalize T[q]=t at *;obtain⟨I,Q,tf,tl,tc⟩:=t;simp only at c0 c1 c2 c3 c4 a6;(go_upto_region 8 with (go_at_call 116;refine Xx aS.o ?_;rintro e w4 ⟨rfl,b1⟩;rw[b1];clear b1));clear aS
   go_cut [47] from 34 to 47 (fun cv wd=>cv=bool ((Q==0)&&(I.toList == []))/\wd=wr)
   case first =>
    cases hr:(Q==0)
    ·go_wp2_with fail;go_meet
     case rel=>exact⟨by rw[hr];rfl,rfl⟩
    ·cases he:(I.toList == [])
     all_goals
      go_wp2_with fail;go_meet
      case rel=>exact⟨by rw[hr,he];rfl,rfl⟩
   case rest =>
    obtain⟨rfl,ct⟩:=hcut;subst ct;cases hA:((Q==0)&&(I.toList == []))
    ·cases hi:(I.toList == [36,91])
     ·have E:Xq (dr (fh f n) f (T.drop (q+1)) c (O++[⟨I,Q,tf,tl,tc⟩])=R):=(by show _=_;rw[<-HE.o];exact(KJ hA hi).symm);go_wp2_with (at_builtin;refine cO _ rfl (.tmp 66) (.tmp 71) rfl P O ⟨I,Q,tf,tl,tc⟩ rfl K.o.i.ZbH (by omega) rfl ?_;intro h5 Y z v;have HM:Xq _:=K.o.Zbt v z;clear z v);go_roundg (T.length-(q+1))
      ·exact⟨q+1,h5,O++[⟨I,Q,tf,tl,tc⟩],c,by omega,rfl,by simp,by go_num,⟨by rw[d.o];simp;omega,by rw[d.o];exact z2,z3⟩,E,HM⟩
      omega
     ·cases bw
      ·have E:Xq (R=(O++[uG ⟨I,Q,tf,tl,tc⟩ 4],c)):=(by show _=_;rw[<-HE.o];exact O6 hA hi N.o);have B:(O++[uG ⟨I,Q,tf,tl,tc⟩ 4]).length+2000*a8 c<=j.length+2000*a8 m:=(by rw[d.o,L.o];simp;omega);have l:a8 c<=a8 m:=(by rw[d.o,L.o];omega);go_wp2_with (at_builtin;refine cO _ rfl (.tmp 75) (.tmp 82) rfl P O (uG ⟨I,Q,tf,tl,tc⟩ 4) rfl K.o.i.ZbH (by omega) rfl ?_;intro h5 Y z v;have HM:Xq _:=K.o.Zbt v z;clear z v);go_ret;exact rI HM.o E.o (by omega) B l (by simp)
      ·have he:(I.toList == [])=false:=by
        have e:I.toList=[36,91]:=(by simpa using hi);rw[e];rfl
       have W:=a6.o he;obtain⟨d0,d1,d2,d3,d4⟩:=tL K.o.t rfl (q+1) T[q+1] (Xv W);have b4:Xq _:=X0 W;rw[b4.o]at HE;have cq:=bg.o T[q+1] (XM W);have ax:Xq ((T[q+1].s.toList == [])=false->q+1+1<T.length):=fun he=>yS.next ai.o (q+1) _ (Xv W) he;have b2:Xq (T[q+1]?=some T[q+1]):=Xv W;generalize T[q+1]=a at *;obtain⟨Z,ar,af,al,ac⟩:=a;simp only at d0 d1 d2 d3 d4 ax cq;obtain⟨r1,ap⟩:=aP (dX f Z ar);have a0:Xq _:=(Ko f (some ⟨D,0,none⟩) y Z af ar al ac _ (by omega) K.o.i.src (by omega));rw[ap.o]at a0;(go_upto_region 17 with (go_at_call 117;refine Xx a0.o ?_;rintro e Y ⟨rfl,k5⟩));obtain⟨W5,am⟩:=aP (Y.alloc (.cells #[string ⟨#[]⟩,int i64 r1,string af,int i64 al,int i64 ac] 138));have az:=dC am.o;have K5:=k5.trans (show aa [] Y W5 by rw[<-am.o];exact bH.alloc _);have a2:Xq _:=K.o.Zbj K5;have X:=k5.size;rw[am.o];clear c0 c1 c2 c3 c4 d0 d1 d2 d3 d4 am a0 k5;obtain⟨p0,p1,p2,p3,p4⟩:=nJ az;cases h1:(r1==0)
       ·have E:Xq (R=(O++[uG ⟨Z,ar,af,al,ac⟩ r1],c)):=(by show _=_;rw[<-HE.o,Is hA hi N.o (by show(dX f Z ar==0)=false;rw[ap.o];exact h1)];simp only;rw[ap.o]);have B:(O++[uG ⟨Z,ar,af,al,ac⟩ r1]).length+2000*a8 c<=j.length+2000*a8 m:=(by rw[d.o,L.o];simp;omega);have l:a8 c<=a8 m:=(by rw[d.o,L.o];omega);go_wp2_with (at_builtin;refine cO _ rfl (.tmp 103) (.tmp 105) rfl P O (uG ⟨Z,ar,af,al,ac⟩ r1) rfl a2.o.i.ZbH (by omega) rfl ?_;intro h5 w8 z v;have HM:Xq _:=a2.o.Zbt v z;clear z v);go_ret;exact rI HM.o E.o (by omega) B l (by simp)
       ·have cl:r1=0:=(by simpa using h1);subst cl;clear h1;have a7:Xq ((dX f Z ar==0)=true):=cm (by rw[ap.o];rfl);obtain⟨cs,bq⟩:=Kq a7.o;have bx:q+2<T.length:=ax.o cs;obtain⟨d0,d1,d2,d3,d4⟩:=tL a2.o.t rfl (q+2) T[q+2] (Xv bx);have b5:Xq (T.drop (q+1+1)=T[q+2] :: T.drop (q+3)):=X0 bx;rw[b5.o]at HE;generalize T[q+2]=b at *;obtain⟨bs,br,bf,bl,bc⟩:=b;simp only at d0 d1 d2 d3 d4;obtain⟨r2,bo⟩:=aP (eN bs br);have aT:Xq _:=FY bs bf br bl bc W5;rw[bo.o]at aT;have p:Xq _:=O4 (rec:=fh f n) (fs:=f) (r:=T.drop (q+3)) (sn:=c) (t:=⟨I,Q,tf,tl,tc⟩) (a:=⟨Z,ar,af,al,ac⟩) (b:=⟨bs,br,bf,bl,bc⟩) hA hi N.o a7.o;rw[HE.o]at p;simp only at p;rw[bo.o]at p;(go_upto_region 19 with (go_at_call 118;refine Xx aT.o ?_;rintro e w6 ⟨rfl,k6⟩;have A:=k6.get az (by simp);have f0:=zcW A 0;have f1:=zcW A 1;have f2:=zcW A 2;have f3:=zcW A 3;have f4:=zcW A 4;have o0:=ab A 0;have o1:=ab A 1;have o2:=ab A 2;have o3:=ab A 3;have o4:=ab A 4;have cS:=ah A));obtain⟨W6,an⟩:=aP (((((w6.setCell ⟨Y.heap.size,0,none⟩ (string ⟨#[]⟩)).setCell ⟨Y.heap.size,1,none⟩ (int i64 r2)).setCell ⟨Y.heap.size,2,none⟩ (string bf)).setCell ⟨Y.heap.size,3,none⟩ (int i64 bl)).setCell ⟨Y.heap.size,4,none⟩ (int i64 bc));have K6:=(show Xq (aa [] _ W6) by rw[<-an.o];exact(((((K5.trans k6).setCell (XK (by exact X)) _).setCell (XK (by exact X)) _).setCell (XK (by exact X)) _).setCell (XK (by exact X)) _).setCell (XK (by exact X)) _);have F:Xq _:=K.o.Zbj K6.o;have BX:W6.heap[Y.heap.size]?=some (.cells #[string ⟨#[]⟩,int i64 r2,string bf,int i64 bl,int i64 bc] 138):=by
         rw[<-an.o,ae (ae (ae (ae (ae A 0 _) 1 _) 2 _) 3 _) 4 _];rfl
        rw[an.o];clear p0 p1 p2 p3 p4 d0 d1 d2 d3 d4 f0 f1 f2 f3 f4 o0 o1 o2 o3 o4 aT an az A K6 k6 K5;obtain⟨p0,p1,p2,p3,p4⟩:=nJ BX;cases h2:(r2==0)
        ·have E:Xq (R=(O++[uG ⟨bs,br,bf,bl,bc⟩ r2],c)):=(by show _=_;rw[p.o,XA h2]);have B:(O++[uG ⟨bs,br,bf,bl,bc⟩ r2]).length+2000*a8 c<=j.length+2000*a8 m:=(by rw[d.o,L.o];simp;omega);have l:a8 c<=a8 m:=(by rw[d.o,L.o];omega);go_wp2_with (at_builtin;refine cO _ rfl (.tmp 103) (.tmp 105) rfl P O (uG ⟨bs,br,bf,bl,bc⟩ r2) rfl F.o.i.ZbH (by omega) rfl ?_;intro h5 w8 z v;have HM:Xq _:=F.o.Zbt v z;clear z v);go_ret;exact rI HM.o E.o (by omega) B l (by simp)
        ·have co:r2=0:=(by simpa using h2);subst co;clear h2;rw[Xz (by simp)]at p;obtain⟨jn,bv⟩:∃jn:Nat,bV f Z=(jn:Int):=⟨(bV f Z).toNat,by omega⟩
         have cj:jn<f.length:=(by have:=Va bq;omega);have cL:(jn:Int)<f.length:=(by omega);have cx:(0:Int)<=(jn:Int):=(by omega);have ad:Xq _:=(oJ f (some ⟨D,0,none⟩) y Z W6 (by omega) F.o.i.src);rw[bv]at ad p;rw[YO]at p;obtain⟨e0,-⟩:=tL F.o.t rfl (q+1) _ b2.o;simp only at e0;obtain⟨bj,a5⟩:∃bj,c[jn]?=some bj:=⟨_,Xv (by omega)⟩
         have sj:=F.o.i.seen.cell jn bj a5;have cg:c.getD jn true=bj:=(by rw[Xw,a5];rfl);rw[cg]at p;clear bv bq;cases bj
         ·rw[Xz (by simp)]at p;have S:Xq _:=(b6.o jn c O P M G W6 (by rw[d.o];omega) z3 bz cj a5 (by rw[d.o];omega) F.o.i);obtain⟨R7,b7⟩:=aP (fh f n jn c O);rw[b7.o]at S p;obtain⟨O7,H⟩:=R7;(go_upto_region 24 with (first | (go_at_call 34;refine Xx ad.o ?_;rintro e w9 ⟨rfl,C⟩;rw[C];clear C) | (go_at_call 81;refine Xx S.o ?_;rintro e w7 ⟨h7,rfl,o7,s7,r7,l7,n7,u7⟩;have bd:Xq _:=F.o.turn r7 o7 s7)));clear p0 p1 p2 p3 p4 e0 sj S ad BX;have l7:H.length=c.length:=l7;have n7:O7.length+2000*a8 H<=O.length+2000*a8 c:=n7;have u7:a8 H<=a8 c:=u7;obtain⟨bk,b3⟩:=aP (fD O7);have cc:O7.length<=100000:=by rw[d.o]at n7;omega
          have J:Xq _:=yo O7 h7.ao h7.cap w7 cc o7.src;rw[b3.o]at J p;rw[d.o]at n7 u7;clear o7 s7 r7;cases bk
          ·have E:Xq (dr (fh f n) f (T.drop (q+3)) H O7=R):=(by show _=_;rw[p.o,Xz (by simp)]);go_wp2_with (go_at_call 82;refine Xx J.o ?_;rintro e w9 ⟨rfl,C⟩;rw[C];clear C);go_roundg (T.length-(q+3))
           ·exact⟨q+3,h7,O7,H,by omega,rfl,rfl,by go_num,⟨by omega,by omega,by omega⟩,E,bd⟩
           omega
          ·have E:Xq (R=(O7,H)):=(by show _=_;rw[p.o,XA rfl]);have B:O7.length+2000*a8 H<=j.length+2000*a8 m:=(by rw[L.o];omega);have l:a8 H<=a8 m:=(by rw[L.o];omega);go_wp2_with (go_at_call 82;refine Xx J.o ?_;rintro e w9 ⟨rfl,C⟩;rw[C];clear C);go_ret;exact rI bd.o E.o (by omega) B l rfl
         ·rw[XA rfl]at p;go_wp2_with (go_at_call 34;refine Xx ad.o ?_;rintro e w9 ⟨rfl,C⟩;rw[C];clear C);go_roundg (T.length-(q+3))
          ·exact⟨q+3,P,O,c,by omega,rfl,rfl,by go_num,⟨by rw[d.o];omega,by rw[d.o];exact z2,z3⟩,p.o.symm,F⟩
          omega
    ·cases bw
     ·have E:Xq (R=(O++[uG ⟨I,Q,tf,tl,tc⟩ 7],c)):=by show _=_;rw[<-HE.o];exact by rw[Dm hA,Xz (by rw[N.o];simp)]
      have B:(O++[uG ⟨I,Q,tf,tl,tc⟩ 7]).length+2000*a8 c<=j.length+2000*a8 m:=(by rw[d.o,L.o];simp;omega);have l:a8 c<=a8 m:=(by rw[d.o,L.o];omega);go_wp2_with (at_builtin;refine cO _ rfl (.tmp 50) (.tmp 57) rfl P O (uG ⟨I,Q,tf,tl,tc⟩ 7) rfl K.o.i.ZbH (by omega) rfl ?_;intro h5 Y z v;have HM:Xq _:=K.o.Zbt v z;clear z v);go_ret;exact rI HM.o E.o (by omega) B l (by simp)
     ·have E:Xq (R=(O,c)):=(by show _=_;rw[<-HE.o,Dm hA,XA N.o]);have B:O.length+2000*a8 c<=j.length+2000*a8 m:=(by rw[d.o,L.o];omega);have l:a8 c<=a8 m:=(by rw[d.o,L.o];omega);go_wp2;go_ret;exact rI K.o E.o (by omega) B l rfl
  ·have e:q=T.length:=(by omega);subst e;have E:Xq (R=(O,c)):=cm (by rw[<-HE.o,ZaW,dr]);have B:O.length+2000*a8 c<=j.length+2000*a8 m:=by rw[d.o,L.o];omega
   have l:a8 c<=a8 m:=(by rw[d.o,L.o];omega);go_wp2;go_ret;exact rI K.o E.o (by omega) B l rfl
def sw(fs:Fs)(k:Nat):List Tk:=(fh fs fs.length k (List.replicate fs.length false) []).1
def kg:Tk:=⟨⟨#[]⟩,0,⟨#[]⟩,0,0⟩
def dd(fs:Fs)(k:Nat):List Tk×Tk:=if fD (sw fs k)=true then((sw fs k).dropLast,(sw fs k).getLast?.getD kg) else(sw fs k,kg)
theorem pt:a8 (List.replicate y false)=y:=by
 unfold a8;rw[List.countP_replicate];simp
theorem mQ.drop(h:mQ k u x v):mQ k u x v.dropLast:=by
 refine⟨by rw[Zk];have:=h.1;omega,fun b t a=>h.2 b t ?_⟩;rw[List.getElem?_dropLast]at a;split at a
 ·exact a
 ·cases a
theorem mQ.keptS{S:Xu}(h:mQ k u x v)(b:aa S k s)(m:∀g,u=some ⟨g,0,none⟩->g∉S):mQ s u x v:=by
 refine⟨h.1,fun j t n=>?_⟩;obtain⟨g,e,a,c,d,f,i,l⟩:=h.2 j t n;have q:∀o,s.cell? ⟨g,o,none⟩=k.cell? ⟨g,o,none⟩:=fun o=>XJ (b.block g a (m g e));exact⟨g,e,XB a b.size,by rw[q];exact c,by rw[q];exact d,by rw[q];exact f,by rw[q];exact i,by rw[q];exact l⟩
theorem wn{i j l m:Value}(h:k.heap[x]?=some (.cells #[i,j,l,m] 87))(a b c d:Value) :
  (k.setCell ⟨x,0,none⟩ a).cell? ⟨x,0,none⟩=some a/\((k.setCell ⟨x,0,none⟩ a).setCell ⟨x,1,none⟩ b).cell? ⟨x,1,none⟩=some b/\(((k.setCell ⟨x,0,none⟩ a).setCell ⟨x,1,none⟩ b).setCell ⟨x,2,none⟩ c).cell? ⟨x,2,none⟩=some c/\((((k.setCell ⟨x,0,none⟩ a).setCell ⟨x,1,none⟩ b).setCell ⟨x,2,none⟩ c).setCell ⟨x,3,none⟩ d).cell? ⟨x,3,none⟩=some d:=by
 have e:=ae h 0 a;have f:=ae e 1 b;have g:=ae f 2 c;have n:=ae g 3 d;exact⟨by rw[ab e];rfl,by rw[ab f];rfl,by rw[ab g];rfl,by rw[ab n];rfl⟩
theorem N0(an:f.length<=4)(am:∀D,(ak f D).size<=1024)(hk:D<f.length)(hO:pD S (some ⟨n,0,none⟩) l f)(hg:n<S.heap.size) :
  Calls prog 53 #[slice (some ⟨n,0,none⟩) f.length l,int i64 D] S fun e w'=>∃ao c,e=returned (tuple #[slice ao (dd f D).1.length c,agg #[int i64 (dd f D).2.ZbG,string (dd f D).2.ZbD,int i64 (dd f D).2.ZbE,int i64 (dd f D).2.ZbF]])/\mQ w' ao c (dd f D).1/\aa [] S w'/\∀g,ao=some ⟨g,0,none⟩->S.heap.size<=g/\g<w'.heap.size:=by
 obtain⟨i1,ap,ar,av,ax⟩:=XV RN;have m2:=fun S=>bY (P:=prog) S 134 4 i1 _ underlying134 ap ar f.length 1 av (by rw[ax];omega) (by omega);obtain⟨mc,J⟩:=aP (madeCells (bool false).cells (f.length*1));have af:Xq (mc=((List.replicate f.length false).map bool).toArray):=cm (by rw[<-J.o,AB]);rw[J.o]at m2;obtain⟨W,I⟩:=aP ((S.alloc (.cells #[int i64 0,string ⟨#[]⟩,int i64 0,int i64 0] 87)).alloc (.cells mc 4));have R:aa [] S W:=by rw[<-I.o];exact(bH.alloc _).alloc _
 have SW:kV W (S.heap.size+1) (List.replicate f.length false):=by
  rw[<-I.o,af.o];have:=XD (S.alloc (.cells #[int i64 0,string ⟨#[]⟩,int i64 0,int i64 0] 87)) (.cells ((List.replicate f.length false).map bool).toArray 4);simpa [kV] using this
 have Q:W.heap[S.heap.size]?=some (.cells #[int i64 0,string ⟨#[]⟩,int i64 0,int i64 0] 87):=by
  rw[<-I.o];exact(bH.alloc _).get (XD _ _) (by simp)
 have hI:uS W n l f (S.heap.size+1) (List.replicate f.length false) ⟨none,0⟩ []:=⟨XE _ _ _ _,SW,hO.Zbw R (by simp),(by intro e;cases e),(by intro e;cases e),by omega,XB hg R.size⟩;have B:Xq _:=(O8 f n l an am f.length D (List.replicate f.length false) [] ⟨none,0⟩ (S.heap.size+1) f.length W (by rw[pt];omega) (by simp) (by omega) hk (by rw[Y4];simp[hk]) (by rw[pt];simp;omega) hI);have b:Xq _:=R;clear hI SW R hO;go_enter func53,ntmps53;go_upto_region 2 with fail
 rw[I.o];obtain⟨R7,H⟩:=aP (fh f f.length D (List.replicate f.length false) []);rw[H.o]at B;have u:Xq (sw f D=R7.1):=cm (by unfold sw;rw[H.o]);obtain⟨L,az⟩:=R7;have u:Xq (sw f D=L):=u.o;go_upto_region 3 with (go_at_call 81;refine Xx B.o ?_;rintro e y ⟨d,rfl,O,s7,U,l7,n7,u7⟩)
 have n7:L.length+2000*a8 az<=0+2000*a8 (List.replicate f.length false):=n7;rw[pt]at n7;have O:aD y d (jL L):=O;have hL:L.length<=100000:=by omega
 have C:aa [S.heap.size+1] W y:=U.Zbw;have x:=C.get Q (by simp);have z:Xq (∀g,d.ao=some ⟨g,0,none⟩->g∉[S.heap.size]):=fun g r T=>by
  have F:d.Zbx=some g:=by unfold Hd.Zbx;rw[r];rfl
  have e3:=ah Q;simp at T;rcases U.Zbx with e | ⟨q,e,aq⟩
  ·rw[F]at e;cases e
  ·rw[F]at e;cases e;omega
 have m:Xq (∀g,d.ao=some ⟨g,0,none⟩->S.heap.size<=g/\g<y.heap.size):=fun g r=>by
  have F:d.Zbx=some g:=by unfold Hd.Zbx;rw[r];rfl
  have e3:=ah Q;have e4:=O.lt F;rcases U.Zbx with e | ⟨q,e,aq⟩
  ·rw[F]at e;cases e
  ·rw[F]at e;cases e;omega
 have A:Xq (aa [] S y):=⟨C.os.trans b.o.os,C.tape.trans b.o.tape,C.output.trans b.o.output,XF b.o.size C.size,fun q T _=>by rw[C.block q (XB T b.o.size) (by simp;omega),b.o.block q T (by simp)]⟩;obtain⟨bk,k⟩:=aP (fD L);have i:Xq _:=yo L d.ao d.cap y hL O.src;rw[k.o]at i;have f0:=zcW x 0;have f1:=zcW x 1;have f2:=zcW x 2;have f3:=zcW x 3;obtain⟨g0,g1,g2,g3⟩:=zU x;have j:Xq _:=O.src;clear B Q I m2 U s7 l7 u7 b C;cases bk
 ·have G:Xq (dd f D=(L,kg)):=by show _=_;unfold dd;rw[u.o,k.o,Xz (by simp)]
  go_wp2_with (go_at_call 82;refine Xx i.o ?_;rintro e w9 ⟨rfl,s⟩;rw[s];clear s);obtain⟨x0,x1,x2,x3⟩:=wn x (int i64 0) (string ⟨#[]⟩) (int i64 0) (int i64 0);have K:aa [S.heap.size] y ((((y.setCell ⟨S.heap.size,0,none⟩ (int i64 0)).setCell ⟨S.heap.size,1,none⟩ (string ⟨#[]⟩)).setCell ⟨S.heap.size,2,none⟩ (int i64 0)).setCell ⟨S.heap.size,3,none⟩ (int i64 0)):=((((aa.refl _ _).sl1 _).sl1 _).sl1 _).sl1 _;exact XG (v:=tuple #[slice d.ao L.length d.cap,agg #[int i64 0,string ⟨#[]⟩,int i64 0,int i64 0]]) (by simp[results,results53,go_sem,x0,x1,x2,x3]) rfl ⟨d.ao,d.cap,by rw[G.o];rfl,by rw[G.o];exact mQ.keptS j.o K z.o,(((A.o.sr1 (by simp) _).sr1 (by simp) _).sr1 (by simp) _).sr1 (by simp) _,fun g r=>⟨(m.o g r).1,XB (m.o g r).2 K.size⟩⟩
 ·have hn:0<L.length:=by
   cases al:L with
   | nil=>rw[al]at k;cases k.o
   | cons _ _=>simp
  obtain⟨a,p⟩:=aP (L.length);have M:a-1<L.length:=by rw[<-p.o];omega
  rw[p.o]at hn hL i ⊢;obtain⟨gs,r,aT,c0,c1,c2,c3,c4⟩:=j.o.2 (a-1) L[a-1] (Xv M);have G:Xq (dd f D=(L.dropLast,L[a-1])):=by
   show _=_;unfold dd;rw[u.o,k.o,XA rfl,Zq,p.o,Xv M];rfl
  have ac:Xq (L.dropLast.length=a-1):=cm (by rw[Zk,p.o]);have aS:a<=d.cap:=by have:=j.o.1;rw[p.o]at this;exact this
  generalize L[a-1]=t at *;obtain⟨ts,Z,X,Y,V⟩:=t;simp only at c0 c1 c2 c3 c4;have a1:IntKind.i64.wrap ((a:Int)-1)=(a:Int)-1:=by rw[YS];omega
  have a0:((a:Int)-1).toNat=a-1:=by omega
  have b2:(a:Int)-1<(a:Int):=by omega
  have b3:(1:Int)<=(a:Int):=by omega
  have b4:(a:Int)-1<=(d.cap:Int):=by omega
  rw[r]at i j z m ⊢;obtain⟨W8,w⟩:=aP (y.alloc (.cells #[string ts,int i64 Z,string X,int i64 Y,int i64 V] 138));go_upto_region 7 with (go_at_call 82;refine Xx i.o ?_;rintro e w9 ⟨rfl,s⟩;rw[s];clear s)
  rw[w.o];have N:=dx w.o;have BX:=dC w.o;have E:=N.get x (by simp);have ag:Xq _:=mQ.drop (mQ.Zbj j.o N);have ad:Xq _:=A.o.trans N;have ai:Xq _:=N.size;clear c0 c1 c2 c3 c4 f0 f1 f2 f3 g0 g1 g2 g3 i w x N A j;obtain⟨-,p1,p2,p3,p4⟩:=nJ BX;have f0:=zcW E 0;have f1:=zcW E 1;have f2:=zcW E 2;have f3:=zcW E 3;obtain⟨g0,g1,g2,g3⟩:=zU E;go_region;go_wp2;obtain⟨x0,x1,x2,x3⟩:=wn E (int i64 Z) (string X) (int i64 Y) (int i64 V);have K:aa [S.heap.size] W8 ((((W8.setCell ⟨S.heap.size,0,none⟩ (int i64 Z)).setCell ⟨S.heap.size,1,none⟩ (string X)).setCell ⟨S.heap.size,2,none⟩ (int i64 Y)).setCell ⟨S.heap.size,3,none⟩ (int i64 V)).drew:=(((((aa.refl _ _).sl1 _).sl1 _).sl1 _).sl1 _).drew;exact XG (v:=tuple #[slice (some ⟨gs,0,none⟩) (a-1) d.cap,agg #[int i64 Z,string X,int i64 Y,int i64 V]]) (by simp[results,results53,go_sem,x0,x1,x2,x3]) rfl ⟨some ⟨gs,0,none⟩,d.cap,by rw[G.o,ac.o],by rw[G.o];exact mQ.keptS ag.o K z.o,((((ad.o.sr1 (by simp) _).sr1 (by simp) _).sr1 (by simp) _).sr1 (by simp) _).drew,fun g r=>⟨(m.o g r).1,XB (m.o g r).2 (XF ai.o K.size)⟩⟩
structure Sm where
 a:Nat
 z:Nat
 h:Nat
 k:Xr
def FH(w:World)(ao:Xt)(cap:Nat)(S:List Sm):Prop:=S.length<=cap/\∀k s,S[k]?=some s->∃g,ao=some ⟨g,0,none⟩/\g<w.heap.size /\
  w.cell? ⟨g,k*4,none⟩=some (int i64 s.a)/\w.cell? ⟨g,k*4+1,none⟩=some (int i64 s.z)/\w.cell? ⟨g,k*4+2,none⟩=some (int i64 s.h)/\w.cell? ⟨g,k*4+3,none⟩=some (string s.k)
theorem FH.Zbj{S:List Sm}(h:FH k u x S)(b:aa [] k s):FH s u x S:=by
 refine⟨h.1,fun j t l=>?_⟩;obtain⟨g,e,a,c,d,f,i⟩:=h.2 j t l;have q:∀o,s.cell? ⟨g,o,none⟩=k.cell? ⟨g,o,none⟩:=fun o=>XJ (b.block g a (by simp));exact⟨g,e,XB a b.size,by rw[q];exact c,by rw[q];exact d,by rw[q];exact f,by rw[q];exact i⟩
structure gM(w:World)(b:Nat)(T:List Tk)(aoT:Xt)(cT:Nat)(S:List Sm)(aoS:Xt)(cS:Nat):Prop where
 d:w.heap[b]?=some (.cells #[slice aoT T.length cT,slice aoS S.length cS] 141)
 t:mQ w aoT cT T
 s:FH w aoS cS S
theorem gM.Zbj{S:List Sm}(h:gM k x v u z0 S zt z5)(a:aa [] k s):gM s x v u z0 S zt z5 :=
 ⟨a.get h.d (by simp),h.t.Zbj a,h.s.Zbj a⟩
theorem gM.cells{S:List Sm}(h:gM k x v u z0 S zt z5):k.cell? ⟨x,0,none⟩=some (slice u v.length z0)/\k.cell? ⟨x,1,none⟩=some (slice zt S.length z5)/\x<k.heap.size :=
 ⟨by rw[ab h.d];rfl,by rw[ab h.d];rfl,ah h.d⟩
def aG(k:Xr):Bool:=(k.toList == [36,97])||(k.toList == [36,112])
def aK(k:Xr):Bool:=(k.toList == [36,102])||(k.toList == [36,101])
set_option maxRecDepth 512
theorem im :
  Calls prog 121 #[string d] S fun e a=>e=returned (bool (aG d))/\a=S:=by
 go_enter func121,ntmps121;go_wp2
 all_goals go_ret
 all_goals (refine⟨?_,rfl⟩;simp[aG, *])
theorem nI :
  Calls prog 122 #[string d] S fun e a=>e=returned (bool (aK d))/\a=S:=by
 go_enter func122,ntmps122;go_wp2
 all_goals go_ret
 all_goals (refine⟨?_,rfl⟩;simp[aK, *])
def iB(w:World)(ao:Xt)(L:Xs):Prop:=∀k x,L[k]?=some x->∃g,ao=some ⟨g,0,none⟩/\g<w.heap.size/\w.cell? ⟨g,k,none⟩=some (string x)
theorem aD.srcX(o:aD k z4 (aE z8)):iB k z4.ao z8:=by
 intro f x c;rcases o.Zbu with ⟨_,b,_⟩ | ⟨g,d,a,e,i,-⟩
 ·have b:z8.length=0:=b;have:=(XL.1 c).1;omega
 ·exact⟨g,a,ah e,o.cell a f (string x) (by simp[aE,dc,c])⟩
theorem Vq(a:y<i.length)(h:(i[y].toList==d.toList)=true):aN i d=true:=by
 unfold aN;exact Yu.2 ⟨i[y],XM a,h⟩
theorem Vr(h:∀k (a:k<i.length),(i[k].toList==d.toList)=false):aN i d=false:=by
 unfold aN;rw[ZL];intro y b;obtain⟨k,a,e⟩:=Yr b;have:=h k a;rw[e]at this;rw[this];simp
theorem kH(l:iB S I i)(x:i.length<=1000000000) :
  Calls prog 92 #[slice I i.length D,string d] S fun e u=>e=returned (bool (aN i d))/\u=S:=by
 have n:Xq _:=l;clear l;go_enter func92,ntmps92;go_wp2
 go_loopg [5] i.length (fun g t wr=>∃k:Nat,k<=i.length/\g=i.length-k/\t=int i64 k/\Xq (∀j (a:j<i.length),j<k->(i[j].toList==d.toList)=false)/\wr=S)
 ·exact⟨0,by omega,by omega,rfl,(fun j _ h=>by omega),rfl⟩
 obtain⟨k,A,z,rfl,f,rfl⟩:=hrel;by_cases c:k<i.length
 ·obtain⟨v,rfl,r,B⟩:=n.o k i[k] (Xv c);have s:(k:Int)<i.length:=by omega
  have q:Xq ((i[k].toList==d.toList)=true->aN i d=true):=Vq i d k c;have p:Xq ((i[k].toList==d.toList)=false->∀j (a:j<i.length),j<k+1->(i[j].toList==d.toList)=false):=fun h j a w=>by
   by_cases e:j=k
   ·subst e;exact h
   ·exact f.o j a (by omega)
  generalize i[k]=y at *;cases m:(y.toList==d.toList)
  ·have b:Xq (∀j (a:j<i.length),j<k+1->(i[j].toList==d.toList)=false):=p.o m;go_wp2;go_roundg (i.length-(k+1))
   ·exact⟨k+1,by omega,rfl,by go_num,b,rfl⟩
   omega
  ·have b:Xq (aN i d=true):=q.o m;go_wp2;go_ret;exact⟨aH b.o.symm,rfl⟩
 ·have b:Xq (aN i d=false):=Vr i d (fun j a=>f.o j a (by omega));go_wp2;go_ret;exact⟨aH b.o.symm,rfl⟩
def tS(T:List Tk)(i:Nat):Xr:=(T.getD i kg).s
theorem jN(h:y<H.length):H[y]?=some (H.getD y kg):=by
 rw[Xw,Xv h];rfl
def eQ(T:List Tk)(b:Nat):Xr×Nat:=if(jC (tS T b) ⟨#[36]⟩||decide (T.length<=b+1))=true then(tS T b,b+1) else(tS T (b+1),b+2)
set_option maxRecDepth 100000
theorem Mz(S:List Sm)(g:Xt)(C:Nat)(w:World)(m:gM w n H I y S g C)(J:l<H.length)(F:H.length<=100000)(K:∀i,(tS H i).size<=1073741824) :
  Calls prog 84 #[pointer (some ⟨n,0,none⟩),int i64 l] w fun e L=>e=returned (tuple #[string (eQ H l).1,int i64 ((eQ H l).2:Nat)])/\L=w:=by
 obtain⟨B,-,O⟩:=m.cells;obtain⟨v,rfl,G,u,-⟩:=m.t.2 l _ (jN H l J);replace u:w.cell? ⟨v,l*5,none⟩=some (string (tS H l)):=u;have q:(l:Int)<H.length:=by omega
 have r:=K l;have c:((l+1:Nat):Int)=(l:Int)+1:=by omega
 have p:((l+2:Nat):Int)=(l:Int)+2:=by omega
 obtain⟨x,f⟩:=aP (tS H l);rw[f.o]at u r;obtain⟨s,d⟩:=aP (H.length);rw[d.o]at B q F;cases j:jC x ⟨#[36]⟩
 ·by_cases N:s<=l+1
  ·have b:Xq (eQ H l=(x,l+1)):=(by show _=_;unfold eQ;rw[f.o,j,d.o,XA (by simp;omega)]);have k:(s:Int)<=(l:Int)+1:=(by omega);go_enter func84,ntmps84;go_wp2_with (go_at_call 119;refine(gQ x _ _ (by omega) (by show 1<=_;omega)).mono ?_;rintro e A ⟨rfl,a⟩;rw[a];clear a);go_ret2;exact⟨by rw[b.o];show _=Ending.returned (tuple #[string x,int i64 ((l+1:Nat):Int)]);rw[c];rfl,rfl⟩
  ·have b:Xq (eQ H l=(tS H (l+1),l+2)):=(by show _=_;unfold eQ;rw[f.o,j,d.o,Xz (by simp;omega)]);have k:¬(s:Int)<=(l:Int)+1:=(by omega);obtain⟨E,D,-,z,-⟩:=m.t.2 (l+1) _ (jN H (l+1) (by rw[d.o];omega));cases D
   replace z:w.cell? ⟨v,(l+1)*5,none⟩=some (string (tS H (l+1))):=z;generalize tS H (l+1)=M at *;go_enter func84,ntmps84;go_wp2_with (go_at_call 119;refine(gQ x _ _ (by omega) (by show 1<=_;omega)).mono ?_;rintro e A ⟨rfl,a⟩;rw[a];clear a);go_ret2;exact⟨by rw[b.o];show _=Ending.returned (tuple #[string M,int i64 ((l+2:Nat):Int)]);rw[p];rfl,rfl⟩
 ·have b:Xq (eQ H l=(x,l+1)):=by show _=_;unfold eQ;rw[f.o,j,XA (by simp)]
  go_enter func84,ntmps84;go_wp2_with (go_at_call 119;refine(gQ x _ _ (by omega) (by show 1<=_;omega)).mono ?_;rintro e A ⟨rfl,a⟩;rw[a];clear a);go_ret2;exact⟨by rw[b.o];show _=Ending.returned (tuple #[string x,int i64 ((l+1:Nat):Int)]);rw[c];rfl,rfl⟩
def uq:Int->List Sm->Bool
 | _,[]=>true
 | o,s :: r=>if aV o s.k<0 then false else uq (aV o s.k) r
def bn(S:List Sm)(j n:Nat):Bool:=uq 0 ((S.drop j).take (n-j))
def bD(S:List Sm)(n:Nat):Int:=(S.take n).foldl (fun o s=>aV o s.k) 0
theorem yq(S:List Sm)(k:Nat)(h:k<S.length):bD S (k+1)=aV (bD S k) S[k].k:=by
 unfold bD;rw[Yc h,ZA];rfl
theorem I6(c:(N.toList == [36,123])=true)(a:(N.toList == [36,125])=true):False:=by
 have b:N.toList=[36,123]:=by simpa using c
 rw[b]at a;exact absurd a (by decide)
theorem JQ(S:List Sm)(j:Xt)(x:Nat)(w:World)(p:gM w n H I y S j x)(N:l<=S.length)(G:S.length<=100000) :
  Calls prog 167 #[pointer (some ⟨n,0,none⟩),int i64 l] w fun e D=>e=returned (int i64 (bD S l))/\D=w:=by
 obtain⟨-,E,J⟩:=p.cells;have v:Xq _:=p.s.2;clear p;go_enter func167,ntmps167;go_wp2
 go_loopg [5,6] l (fun g o i wr=>∃(k:Nat) (m:Int),k<=l/\g=l-k/\o=int i64 m/\i=int i64 k/\(-(k:Int)<=m/\m<=(k:Int))/\Xq (m=bD S k)/\wr=w)
 ·exact⟨0,0,by omega,rfl,rfl,rfl,by omega,rfl,rfl⟩
 obtain⟨k,m,L,K,rfl,rfl,M,r,rfl⟩:=hrel;by_cases B:k<l
 ·have d:k<S.length:=by omega
  obtain⟨F,rfl,z,-,-,-,C⟩:=v.o k S[k] (Xv d);have b:Xq _:=yq S k d;have A:(k:Int)<(l:Int):=by omega
  have u:(k:Int)<S.length:=by omega
  rw[<-r.o]at b;generalize S[k]=t at *;obtain⟨O,Q,P,q⟩:=t;simp only at C b;cases f:(q.toList == [36,123])
  ·cases c:(q.toList == [36,125])
   ·have a:Xq (m=bD S (k+1)):=(by show _=_;rw[b.o,aV,f,c];simp);go_wp2;go_roundg (l-(k+1))
    ·exact⟨k+1,m,by omega,rfl,rfl,by go_num,by omega,a,rfl⟩
    omega
   ·have a:Xq (m-1=bD S (k+1)):=(by show _=_;rw[b.o,aV,f,c];simp);go_wp2;go_roundg (l-(k+1))
    ·exact⟨k+1,m-1,by omega,rfl,by go_num,by go_num,by omega,a,rfl⟩
    omega
  ·cases c:(q.toList == [36,125])
   ·have a:Xq (m+1=bD S (k+1)):=(by show _=_;rw[b.o,aV,f,c];simp);go_wp2;go_roundg (l-(k+1))
    ·exact⟨k+1,m+1,by omega,rfl,by go_num,by go_num,by omega,a,rfl⟩
    omega
   ·exact(I6 f c).elim
 ·have e:k=l:=by omega
  subst e;go_wp2;go_ret;exact⟨au r.o,rfl⟩
theorem QH(S:List Sm)(k n:Nat)(h:k<n)(a:n<=S.length):(S.drop k).take (n-k)=S[k]'(by omega) :: (S.drop (k+1)).take (n-(k+1)):=by
 rw[X0 (by omega),show n-k=(n-(k+1))+1 by omega,List.take_succ_cons]
theorem mR(S:List Sm)(p:Xt)(C:Nat)(w:World)(q:gM w L H I y S p C)(R:n<=l)(G:l<=S.length)(O:S.length<=100000) :
  Calls prog 91 #[pointer (some ⟨L,0,none⟩),int i64 n,int i64 l] w fun e K=>e=returned (bool (bn S n l))/\K=w:=by
 obtain⟨-,M,P⟩:=q.cells;have B:Xq _:=q.s.2;clear q;go_enter func91,ntmps91;go_wp2
 go_loopg [7,8] (l-n) (fun g o i wr=>∃(k:Nat) (m:Int),(n<=k/\k<=l)/\g=l-k/\o=int i64 m/\i=int i64 k/\(0<=m/\m<=(k:Int))/\Xq (bn S n l=uq m ((S.drop k).take (l-k)))/\wr=w)
 ·exact⟨n,0,⟨by omega,by omega⟩,rfl,rfl,rfl,by omega,rfl,rfl⟩
 obtain⟨k,m,⟨E,T⟩,Q,rfl,rfl,U,b,rfl⟩:=hrel;by_cases u:k<l
 ·have r:k<S.length:=by omega
  obtain⟨N,rfl,D,-,-,-,J⟩:=B.o k S[k] (Xv r);have A:Xq _:=QH S k l u G;rw[A.o,uq]at b;have F:(k:Int)<(l:Int):=by omega
  have x:(k:Int)<S.length:=by omega
  generalize S[k]=t at *;obtain⟨V,X,W,c⟩:=t;simp only at J b;cases j:(c.toList == [36,123])
  ·cases d:(c.toList == [36,125])
   ·have a:Xq (bn S n l=uq m ((S.drop (k+1)).take (l-(k+1)))):=by
     have f:aV m c=m:=(by unfold aV;rw[j,d];simp);have:=b.o;rw[f,Xz (by omega)]at this;exact this
    have v:¬m<0:=(by omega);go_wp2;go_roundg (l-(k+1))
    ·exact⟨k+1,m,⟨by omega,by omega⟩,rfl,rfl,by go_num,by omega,a,rfl⟩
    omega
   ·have f:aV m c=m-1:=(by unfold aV;rw[j,d];simp);rw[f]at b;by_cases z:m-1<0
    ·have a:Xq (bn S n l=false):=by
      have:=b.o;rw[XA z]at this;exact this
     go_wp2;go_ret;exact⟨aH a.o.symm,rfl⟩
    ·have a:Xq (bn S n l=uq (m-1) ((S.drop (k+1)).take (l-(k+1)))):=by
      have:=b.o;rw[Xz z]at this;exact this
     go_wp2;go_roundg (l-(k+1))
     ·exact⟨k+1,m-1,⟨by omega,by omega⟩,rfl,by go_num,by go_num,by omega,a,rfl⟩
     omega
  ·cases d:(c.toList == [36,125])
   ·have a:Xq (bn S n l=uq (m+1) ((S.drop (k+1)).take (l-(k+1)))):=by
     have f:aV m c=m+1:=(by unfold aV;rw[j,d];simp);have:=b.o;rw[f,Xz (by omega)]at this;exact this
    have v:¬m+1<0:=(by omega);go_wp2;go_roundg (l-(k+1))
    ·exact⟨k+1,m+1,⟨by omega,by omega⟩,rfl,by go_num,by go_num,by omega,a,rfl⟩
    omega
   ·exact(I6 j d).elim
 ·have e:k=l:=by omega
  subst e;have a:Xq (bn S n k=true):=cm (by rw[b.o,YA,ZS,uq]);go_wp2;go_ret;exact⟨aH a.o.symm,rfl⟩
def pq(s:Xr):Bool:=(s.toList == [36,61])||(s.toList == [36,46])
def mL:List Tk->Xs
 | []=>[]
 | t :: r=>if pq t.s=true then [] else t.s :: mL r
def bC(T:List Tk)(h:Nat):Xs:=mL (T.drop h)
def dA(T:List Tk)(h:Nat):Prop:=∃e,h<=e/\e<T.length/\pq (tS T e)=true
theorem Mk(h:y<H.length):H.drop y=H.getD y kg :: H.drop (y+1):=by
 rw[X0 h,Xw,Xv h];rfl
theorem NK(L:List Tk):(mL L).length<=L.length:=by
 induction L with
 | nil=>exact Xy _
 | cons t r a=>rw[mL];split <;> simp <;> omega
theorem jO:(bC H y).length<=H.length:=by
 have:=NK (H.drop y);rw[Ym]at this;unfold bC;omega
structure xf(w wr:World)(h:Hd)(O:Xs):Prop where
 ZbH:aD wr h (aE O)
 far:∀k,h.Zbx=some k->w.heap.size<=k
 Zbw:aa [] w wr
theorem xf.nil:xf S S ⟨none,0⟩ []:=⟨XE _ _ _ _,(by intro k a;cases a),aa.refl _ _⟩
theorem xf.Zbj(a:xf k s z4 z8)(b:aa [] s zf):xf k zf z4 z8:=⟨a.ZbH.Zbj b,a.far,a.Zbw.trans b⟩
theorem xf.Zbt{f:Xs}(a:xf k s z4 z8)(g:bL s zf z4 z6)(o:aD zf z6 (aE f)):xf k zf z6 f:=by
 refine⟨o,fun c b=>?_,⟨g.Zbw.os.trans a.Zbw.os,g.Zbw.tape.trans a.Zbw.tape,g.Zbw.output.trans a.Zbw.output,XF a.Zbw.size g.Zbw.size,fun c b _=>?_⟩⟩
 ·rcases g.Zbx with e | ⟨q,e,d⟩
  ·exact a.far c (by rw[<-e];exact b)
  ·rw[e]at b;cases b;exact XF a.Zbw.size d
 ·rw[g.Zbw.block c (XB b a.Zbw.size) (fun d=>by have:=a.far _ (aX d);omega),a.Zbw.block c b (by simp)]
theorem so{g:Array Oper}{b:List Oper}{o:Oper}{a:Act}{Q:Exit->Act->World->Prop}(y:o.guard=none)(s x:Operand)(l:o.op=Op.call { callee:=Callee.builtin Builtin.append,args:=#[s,x],argTypes:=#[61,61] })(h:Hd)(L:Xs)(t:Xr)(C:a.eval s=slice h.ao L.length h.cap)(e:aD S h (aE L))(H:L.length<=1000000)(E:a.eval x=slice (some ⟨S.heap.size,0,none⟩) 1 1)(w:∀i q,aD q i (aE (L++[t]))->bL S q h i->wpList prog g Q b (a.put o.dst (slice i.ao (L.length+1) i.cap)) q) :
  wpList prog g Q (o :: b) a (S.alloc (.cells #[string t] 9)):=by
 obtain⟨F,z,m,n,p⟩:=XV i9;have r:aa [] S (S.alloc (.cells #[string t] 9)):=bH.alloc _;have B:(S.alloc (.cells #[string t] 9)).heap[S.heap.size]?=some (.cells #[string t] 9):=XD _ _;refine aR _ y s x 61 l F (string ⟨#[]⟩) 16 h (aE L) underlying61 z m n p rfl XR C (e.Zbj r) ⟨S.heap.size,0,none⟩ 1 1 [string t] E rfl ?_ ?_ XR (by simp only[aE];unfold maxLen;omega) (by simp only[aE];omega) ?_
 ·intro j u A;rw[bE,ab B];simpa using A
 ·intro u D;rw[XH.1 D];rfl
 ·intro v c G f d k;rw[dy]at f;exact w ⟨some ⟨v,0,none⟩,c⟩ G f ((bL.Zbj r).trans (bL.made d k))
theorem jI(S:List Sm)(z:Xt)(M:Nat)(w:World)(p:gM w n H I y S z M)(hj:l<S.length)(hT:H.length<=100000)(V:dA H S[l].h) :
  Calls prog 71 #[pointer (some ⟨n,0,none⟩),int i64 l] w fun e w'=>∃a,e=returned (slice a.ao (bC H S[l].h).length a.cap)/\xf w w' a (bC H S[l].h):=by
 obtain⟨gS,rfl,X,-,-,q2,-⟩:=p.s.2 l S[l] (Xv hj);generalize S[l].h=b at *;obtain⟨e,e1,N,P⟩:=V;obtain⟨R,rfl,Y,-⟩:=p.t.2 e _ (jN H e N);have F:Xq _:=p;obtain⟨E,L,hb⟩:=p.cells;have ac:(l:Int)<S.length:=by omega
 have J:Xq _:=xf.nil w;clear p;go_enter func71,ntmps71;go_wp2;clear E L q2
 go_loopg [5,6] (H.length-b) (fun g o i wr=>∃(k:Nat) (a:Hd) (O:Xs),(b<=k/\k<=e)/\g=H.length-k/\o=slice a.ao O.length a.cap/\i=int i64 k/\O.length<=k/\Xq (O++mL (H.drop k)=bC H b)/\Xq (xf w wr a O))
 ·exact⟨b,⟨none,0⟩,[],⟨by omega,by omega⟩,rfl,rfl,rfl,XX _,rfl,J⟩
 obtain⟨k,a,O,⟨ad,af⟩,hg,rfl,rfl,hO,c,m⟩:=hrel;have r:k<H.length:=by omega
 have f:Xq _:=gM.Zbj F.o m.o.Zbw;obtain⟨E,-,W⟩:=f.o.cells;obtain⟨T,Q,Z,D,-⟩:=f.o.t.2 k _ (jN H k r);cases Q
 replace D:wr.cell? ⟨R,k*5,none⟩=some (string (tS H k)):=D;have ai:(k:Int)<H.length:=by omega
 have G:Xq _:=Mk H k r;rw[G.o,mL]at c;have c:Xq (O++(if pq (tS H k)=true then [] else tS H k :: mL (H.drop (k+1)))=bC H b):=c.o;have j:Xq (k=e->pq (tS H k)=true):=fun h=>by rw[h];exact P
 obtain⟨x,K⟩:=aP (tS H k);rw[K.o]at D c j;have C:=m.o.ZbH;obtain⟨al,Hn⟩:=aP (H.length);cases A:(x.toList == [36,61])
 ·cases B:(x.toList == [36,46])
  ·have ag:k<e:=by
    have:¬k=e:=fun h=>by have:=j.o h;unfold pq at this;rw[A,B]at this;cases this
    omega
   have d:Xq ((O++[x])++mL (H.drop (k+1))=bC H b):=by
    have:=c.o;rw[Xz (by unfold pq;rw[A,B];simp)]at this;show _=_;rw[<-this];simp
   go_wp2_with (at_builtin;refine so _ rfl (.tmp 37) (.tmp 46) rfl a O x rfl C (by omega) rfl ?_;intro U w5 u q;have v:Xq _:=m.o.Zbt q u;clear u q);go_roundg (H.length-(k+1))
   ·exact⟨k+1,U,O++[x],⟨by omega,by omega⟩,rfl,by simp,by go_num,by simp;omega,d,v⟩
   omega
  ·have d:Xq (bC H b=O):=by
    have:=c.o;rw[XA (by unfold pq;rw[B];simp)]at this;show _=_;rw[<-this];simp
   go_wp2;go_ret;exact⟨a,by rw[d.o];rfl,by rw[d.o];exact m.o⟩
 ·have d:Xq (bC H b=O):=by
   have:=c.o;rw[XA (by unfold pq;rw[A];simp)]at this;show _=_;rw[<-this];simp
  go_wp2;go_ret;exact⟨a,by rw[d.o];rfl,by rw[d.o];exact m.o⟩
def bP(T:List Tk)(s:Sm):Xr:=if(aG s.k||aK s.k)=true then tS T s.a else⟨#[]⟩
theorem oN(S:List Sm)(m:Xt)(A:Nat)(w:World)(i:gM w n H I y S m A)(F:l<S.length)(u:S[l].a<H.length) :
  Calls prog 86 #[pointer (some ⟨n,0,none⟩),int i64 l] w fun e L=>e=returned (string (bP H S[l]))/\aa [] w L:=by
 obtain⟨O,rfl,D,J,-,-,K⟩:=i.s.2 l S[l] (Xv F);obtain⟨B,rfl,E,j,-⟩:=i.t.2 S[l].a _ (jN H _ u);have f:Xq (bP H S[l]=if(aG S[l].k||aK S[l].k)=true then tS H S[l].a else⟨#[]⟩):=rfl;replace j:w.cell? ⟨B,S[l].a*5,none⟩=some (string (tS H S[l].a)):=j;generalize bP H S[l]=R at *;generalize S[l]=s at *;obtain⟨q,T,Q,c⟩:=s;simp only at J K j f u;obtain⟨x,z⟩:=aP (tS H q);rw[z.o]at j f;obtain⟨M,N,P⟩:=i.cells;have G:(l:Int)<S.length:=by omega
 have C:(q:Int)<H.length:=by omega
 have v:(0:Int)<=(q:Int):=by omega
 clear i;cases p:aG c
 ·cases r:aK c
  ·have d:Xq (R=⟨#[]⟩):=(by show _=_;rw[f.o,p,r];rfl);go_enter func86,ntmps86;go_wp2_with (first | (go_at_call 121;refine(im c _).mono ?_;rintro e g ⟨rfl,b⟩;rw[b];clear b) | (go_at_call 122;refine(nI c _).mono ?_;rintro e g ⟨rfl,b⟩;rw[b];clear b));go_ret;exact⟨by rw[d.o];rfl,aa.refl _ _⟩
  ·have d:Xq (R=x):=(by show _=_;rw[f.o,p,r];rfl);go_enter func86,ntmps86;(go_upto_region 4 with (first | (go_at_call 121;refine(im c _).mono ?_;rintro e g ⟨rfl,b⟩;rw[b];clear b) | (go_at_call 122;refine(nI c _).mono ?_;rintro e g ⟨rfl,b⟩;rw[b];clear b)));go_region
   all_goals
    go_wp2;go_ret;exact⟨by rw[d.o];rfl,(aa.refl [] w).drew⟩
 ·have d:Xq (R=x):=by show _=_;rw[f.o,p];rfl
  go_enter func86,ntmps86;go_upto_region 4 with (first | (go_at_call 121;refine(im c _).mono ?_;rintro e g ⟨rfl,b⟩;rw[b];clear b) | (go_at_call 122;refine(nI c _).mono ?_;rintro e g ⟨rfl,b⟩;rw[b];clear b))
  go_region
  all_goals
   go_wp2;go_ret;exact⟨by rw[d.o];rfl,(aa.refl [] w).drew⟩
def smD:Sm:=⟨0,0,0,⟨#[]⟩⟩
def ay(S:List Sm)(j:Nat):Sm:=S.getD j smD
theorem bA(S:List Sm)(j:Nat)(h:j<S.length):S[j]'h=ay S j:=by
 unfold ay;rw[Xw,Xv h];rfl
def sN(T:List Tk)(S:List Sm)(key x:Xr)(n:Nat)(act:Bool)(j:Nat):Bool:=((ay S j).k.toList==key.toList)&&(aN (bC T (ay S j).h) x&&(bn S j n || !act))
def kR(T:List Tk)(S:List Sm)(key x:Xr)(n:Nat)(act:Bool):Bool:=(List.range n).any (sN T S key x n act)
theorem fm{p:Nat->Bool}(h:∀j,j<x->p j=false)(a:p x=false):∀j,j<x+1->p j=false:=fun j b=>by
 by_cases e:j=x
 ·rw[e];exact a
 ·exact h j (by omega)
theorem rj(b:Bool)(T:List Tk)(t:Xt)(N:Nat)(S:List Sm)(K:Xt)(M:Nat)(w:World)(U:gM w L T t N S K M)(hn:n<=S.length)(hS:S.length<=100000)(hT:T.length<=100000)(hE:∀j,j<n->((ay S j).k.toList==o.toList)=true->dA T (ay S j).h) :
  Calls prog 211 #[pointer (some ⟨L,0,none⟩),string o,string d,int i64 n,bool b] w fun e D=>e=returned (bool (kR T S o d n b))/\aa [] w D:=by
 have H:Xq _:=U;clear U;go_enter func211,ntmps211;go_wp2
 go_loopg [11] n (fun g i wr=>∃k:Nat,k<=n/\g=n-k/\i=int i64 k/\Xq (∀j,j<k->sN T S o d n b j=false)/\Xq (aa [] w wr))
 ·exact⟨0,by omega,rfl,rfl,(fun j hj=>by omega),aa.refl _ _⟩
 obtain⟨k,hk,hg,rfl,E,C⟩:=hrel;by_cases u:k<n
 ·have p:k<S.length:=by omega
  have z:Xq _:=gM.Zbj H.o C.o;obtain⟨-,Z,hb⟩:=z.o.cells;obtain⟨gs,rfl,ad,-,-,-,q3⟩:=z.o.s.2 k S[k] (Xv p);have af:(k:Int)<(n:Int):=by omega
  have V:(k:Int)<S.length:=by omega
  have r:Xq (sN T S o d n b k=((S[k].k.toList==o.toList)&&(aN (bC T S[k].h) d&&(bn S k n || !b)))):=cm (by unfold sN;rw[bA S k p]);have A:Xq ((S[k].k.toList==o.toList)=true->dA T S[k].h):=by have:=hE k u;rw[<-bA S k p]at this;exact this
  have G:Xq ((S[k].k.toList==o.toList)=true->∀m,aa [] w m->Calls prog 71 #[pointer (some ⟨L,0,none⟩),int i64 k] m fun e D=>∃O,e=returned (slice O.ao (bC T S[k].h).length O.cap)/\xf m D O (bC T S[k].h)):=fun h m P=>jI L k T t N S _ M m (gM.Zbj H.o P) p hT (A.o h);have X:=jO T S[k].h;have y:Xq (∀m,aa [] w m->Calls prog 91 #[pointer (some ⟨L,0,none⟩),int i64 k,int i64 n] m fun e D=>e=returned (bool (bn S k n))/\D=m):=fun m P=>mR L k n T t N S _ M m (gM.Zbj H.o P) (by omega) hn hS;clear A;generalize bC T S[k].h=B at *;generalize S[k].k=sk at *;obtain⟨Y,I⟩:=aP (bn S k n);rw[I.o]at r y;cases v:(sk.toList==o.toList)
  ·have l:Xq _:=fm E.o (by rw[r.o,v];rfl);go_wp2;go_roundg (n-(k+1))
   ·exact⟨k+1,by omega,rfl,by go_num,l,C⟩
   omega
  ·have F:Xq _:=G.o v;(go_upto_region 6 with (go_at_call 71;refine(F.o _ (by exact C.o)).mono ?_;rintro e W ⟨R,rfl,Q⟩));have f:Xq _:=C.o.trans Q.Zbw;have c:Xq _:=(kH B R.ao R.cap d W Q.ZbH.srcX (by omega));clear Q Z q3;obtain⟨hs,J⟩:=aP (aN B d);rw[J.o]at c r;cases hs
   ·have l:Xq _:=fm E.o (by rw[r.o,v];rfl);go_wp2_with (go_at_call 92;refine Xx c.o ?_;rintro e x ⟨rfl,a⟩;rw[a];clear a);go_roundg (n-(k+1))
    ·exact⟨k+1,by omega,rfl,by go_num,l,f⟩
    omega
   ·have q:Xq _:=y.o W f.o;cases Y
    ·cases b
     ·have l:Xq (kR T S o d n false=true):=pK k u (by rw[r.o,v];rfl);go_wp2_with (first | (go_at_call 92;refine Xx c.o ?_;rintro e x ⟨rfl,a⟩;rw[a];clear a) | (go_at_call 91;refine Xx q.o ?_;rintro e x ⟨rfl,a⟩;rw[a];clear a));go_ret;exact⟨aH l.o.symm,f.o⟩
     ·have l:Xq _:=fm E.o (by rw[r.o,v];rfl);go_wp2_with (first | (go_at_call 92;refine Xx c.o ?_;rintro e x ⟨rfl,a⟩;rw[a];clear a) | (go_at_call 91;refine Xx q.o ?_;rintro e x ⟨rfl,a⟩;rw[a];clear a));go_roundg (n-(k+1))
      ·exact⟨k+1,by omega,rfl,by go_num,l,f⟩
      omega
    ·have l:Xq (kR T S o d n b=true):=pK k u (by rw[r.o,v];simp);go_wp2_with (first | (go_at_call 92;refine Xx c.o ?_;rintro e x ⟨rfl,a⟩;rw[a];clear a) | (go_at_call 91;refine Xx q.o ?_;rintro e x ⟨rfl,a⟩;rw[a];clear a));go_ret;exact⟨aH l.o.symm,f.o⟩
 ·have l:Xq (kR T S o d n b=false):=zL (fun j hj=>E.o j (by omega));go_wp2;go_ret;exact⟨aH l.o.symm,C.o⟩
def zi(T:List Tk)(S:List Sm)(n:Nat)(key:List UInt8):Prop:=∀j,j<n->((ay S j).k.toList==key)=true->dA T (ay S j).h
theorem qH:(⟨#[36,99]⟩:Xr).toList=[36,99]/\(⟨#[36,118]⟩:Xr).toList=[36,118]:=by decide +kernel
def fG(T:List Tk)(S:List Sm)(x:Xr)(n:Nat):Bool:=kR T S ⟨#[36,99]⟩ x n false
def mH(T:List Tk)(S:List Sm)(x:Xr)(n:Nat):Bool:=kR T S ⟨#[36,118]⟩ x n true
set_option maxRecDepth 512
theorem xn(S:List Sm)(a:Xt)(b:Nat)(w:World)(d:gM w L H I y S a b)(j:n<=S.length)(g:S.length<=100000)(i:H.length<=100000)(f:zi H S n [36,99]) :
  Calls prog 171 #[pointer (some ⟨L,0,none⟩),string o,int i64 n] w fun e l=>e=returned (bool (fG H S o n))/\aa [] w l:=by
 have c:Xq _:=(rj L n ⟨#[36,99]⟩ o false H I y S a b w d j g i (by rw[qH.1];exact f));go_enter func171,ntmps171;go_wp2_with fail;refine Xx c.o ?_;rintro e m ⟨rfl,k⟩;go_wp2;go_ret;exact⟨rfl,k⟩
theorem Fj(S:List Sm)(a:Xt)(b:Nat)(w:World)(d:gM w L H I y S a b)(j:n<=S.length)(g:S.length<=100000)(i:H.length<=100000)(f:zi H S n [36,118]) :
  Calls prog 172 #[pointer (some ⟨L,0,none⟩),string o,int i64 n] w fun e l=>e=returned (bool (mH H S o n))/\aa [] w l:=by
 have c:Xq _:=(rj L n ⟨#[36,118]⟩ o true H I y S a b w d j g i (by rw[qH.2];exact f));go_enter func172,ntmps172;go_wp2_with fail;refine Xx c.o ?_;rintro e m ⟨rfl,k⟩;go_wp2;go_ret;exact⟨rfl,k⟩
def uB(T:List Tk)(S:List Sm)(x:Xr)(j:Nat):Bool:=!((bP T (ay S j)).toList == [])&&((bP T (ay S j)).toList==x.toList)
def bU(T:List Tk)(S:List Sm)(x:Xr)(n:Nat):Int:=match (List.range n).find? (uB T S x) with
 | some j=>j
 | none=>-1
theorem EF{S:List Sm}(c:z0<x)(h:uB v S N z0=true)(a:∀j,j<z0->uB v S N j=false):bU v S N x=z0:=by
 have e:(List.range x).find? (uB v S N)=some z0:=by
  rw[Y3];exact⟨h,XI.2 c,fun j b=>by rw[a j b];rfl⟩
 unfold bU;rw[e]
theorem GT{S:List Sm}(a:∀j,j<x->uB v S N j=false):bU v S N x=-1:=by
 have e:(List.range x).find? (uB v S N)=none:=by
  rw[YD];intro j b;rw[a j (XI.1 b)];simp
 unfold bU;rw[e]
set_option maxRecDepth 100000
theorem rA(S:List Sm)(p:Xt)(u:Nat)(w:World)(z:gM w L H I y S p u)(M:n<=S.length)(G:S.length<=100000)(C:∀j,j<n->(ay S j).a<H.length) :
  Calls prog 170 #[pointer (some ⟨L,0,none⟩),string o,int i64 n] w fun e F=>e=returned (int i64 (bU H S o n))/\aa [] w F:=by
 have B:Xq _:=z;clear z;go_enter func170,ntmps170;go_wp2
 go_loopg [7] n (fun g i wr=>∃k:Nat,k<=n/\g=n-k/\i=int i64 k/\Xq (∀j,j<k->uB H S o j=false)/\Xq (aa [] w wr))
 ·exact⟨0,by omega,rfl,rfl,(fun j D=>by omega),aa.refl _ _⟩
 obtain⟨k,K,J,rfl,s,m⟩:=hrel;by_cases q:k<n
 ·have f:k<S.length:=by omega
  have E:(k:Int)<(n:Int):=by omega
  have t:Xq (uB H S o k=(!((bP H S[k]).toList == [])&&((bP H S[k]).toList==o.toList))):=cm (by unfold uB;rw[bA S k f]);have c:Xq _:=(oN L k H I y S p u wr (gM.Zbj B.o m.o) f (by rw[bA S k f];exact C k q));generalize bP H S[k]=l at *;cases v:(l.toList == [])
  ·cases x:(l.toList==o.toList)
   ·have d:Xq _:=fm s.o (by rw[t.o,x];simp);go_wp2_with (go_at_call 86;refine Xx c.o ?_;rintro e A ⟨rfl,r⟩;have b:Xq _:=m.o.trans r);go_roundg (n-(k+1))
    ·exact⟨k+1,by omega,rfl,by go_num,d,b⟩
    omega
   ·have d:Xq (bU H S o n=k):=EF q (by rw[t.o,v,x];rfl) s.o;go_wp2_with (go_at_call 86;refine Xx c.o ?_;rintro e A ⟨rfl,r⟩;have b:Xq _:=m.o.trans r);go_ret;exact⟨au d.o.symm,b.o⟩
  ·have d:Xq _:=fm s.o (by rw[t.o,v];rfl);go_wp2_with (go_at_call 86;refine Xx c.o ?_;rintro e A ⟨rfl,r⟩;have b:Xq _:=m.o.trans r);go_roundg (n-(k+1))
   ·exact⟨k+1,by omega,rfl,by go_num,d,b⟩
   omega
 ·have d:Xq (bU H S o n=-1):=GT (fun j D=>s.o j (by omega));go_wp2;go_ret;exact⟨au d.o.symm,m.o⟩
end Go.Proofs.YtpdholcaobgofaaGreat
