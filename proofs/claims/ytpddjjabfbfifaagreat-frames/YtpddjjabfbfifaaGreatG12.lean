import Derived.Deep.RegionHeld3
import Derived.Deep.CutRange
import Derived.Test.YtpddjjabfbfifaaGreatG11
namespace Go.Proofs.YtpddjjabfbfifaaGreat
open Go.RowKit Tryz
set_option maxRecDepth 100000
set_option maxHeartbeats 40000000
variable{d M zt:World}{x z0 z5:Nat}{L:Fs}{N:List Bool}{z4 z6:Hd}{y I:List Tk}{z7:Nat->List Bool->List Tk->List Tk×List Bool}{o:Tk}{D:ByteArray}{g y0:Option Addr}{zb:List ByteArray}(k l:Nat)(H:ByteArray)(S:List ByteArray)(b:Nat)(w:List Tk)(a:Option Addr)(f:Fs)(v:Nat)(n:ByteArray)(i:World)(T:Nat)
def Kp(w:World)(gs:Nat)(sn:List Bool)(h:Hd)(out:List Tk)(R:List Tk×List Bool)(e:Ending)(w':World):Prop :=
 ∃h',e=.returned (.slice h'.ao R.1.length h'.cap)/\aw w' h' (ir R.1)/\jy w' gs R.2/\uX w w' gs h h'/\R.2.length=sn.length/\R.1.length+2000*aQ R.2<=out.length+2000*aQ sn/\aQ R.2<=aQ sn
structure Kf(w wr:World)(gf cap:Nat)(fs:Fs)(gs:Nat)(sn:List Bool)(h h':Hd)(O:List Tk)(gT capT:Nat)(T:List Tk):Prop where
 i:rd wr gf cap fs gs sn h' O
 r:uX w wr gs h h'
 t:aw wr ⟨some ⟨gT,0,none⟩,capT⟩ (ir T)
 b1:h'.blk≠some gT
 b2:gT≠gs
section
variable {w wr wr':World} {gf cap:Nat} {fs:Fs} {gs:Nat} {sn sn':List Bool} {h h' h'':Hd} {O O':List Tk} {gT capT:Nat} {T:List Tk}
theorem Kf.turn(a:Kf w wr gf cap fs gs sn h h' O gT capT T)(r:uX wr wr' gs h' h'')(o:aw wr' h'' (ir O'))(s:jy wr' gs sn'):Kf w wr' gf cap fs gs sn' h h'' O' gT capT T:=by
 have d:gT<wr.heap.size:=a.t.lt rfl;refine⟨a.i.turn r o s,a.r.trans r,a.t.Vf (fun q c=>r.kept.block q (a.t.lt c) (fun b=>?_)),?_,a.b2⟩
 ·have e:q=gT:=by cases c;rfl
  subst e
  rcases Ri.1 b with e | b
  ·exact a.b2 e
  ·exact a.b1 (aN b)
 ·rcases r.blk with e | ⟨g,e,f⟩
  ·rw[e];exact a.b1
  ·rw[e];intro q;cases q;omega
theorem Kf.grew(a:Kf w wr gf cap fs gs sn h h' O gT capT T)(g:bt wr wr' h' h'')(o:aw wr' h'' (ir O')):Kf w wr' gf cap fs gs sn h h'' O' gT capT T :=
 a.turn (uX.of g) o (a.i.seen.kept g.kept (fun b=>a.i.a1 (aN b)))
theorem Kf.Va(a:Kf w wr gf cap fs gs sn h h' O gT capT T)(k:ab [] wr wr'):Kf w wr' gf cap fs gs sn h h' O gT capT T :=
 a.grew (bt.Va k) (a.i.own.Va k)
end
theorem oL{b:List Bool}{h c:Nat}{T:List Tk}{R:List Tk×List Bool}(a:Kf d M x z0 L z5 b z4 z6 I h c T)(e:R=(I,b))(k:b.length=N.length)(j:I.length+2000*aQ b<=y.length+2000*aQ N)(g:aQ b<=aQ N){m:Nat}(f:m=I.length):Kp d z5 N z4 y R (.returned (.slice z6.ao m z6.cap)) M:=by
 subst e;subst f;exact⟨z6,rfl,a.i.own,a.i.seen,a.r,k,j,g⟩
theorem yX(h:((o.rule==0)&&(o.s.toList == []))=true):cv z7 L (o :: y) N I=((if dg I=true then I else I++[qN o 7]),N):=by
 rw[cv.eq_def];simp only;rw[QV h]
theorem EZ(h:((o.rule==0)&&(o.s.toList == []))=false)(a:(o.s.toList == [36,91])=false):cv z7 L (o :: y) N I=cv z7 L y N (I++[o]):=by
 rw[cv.eq_def];simp only;rw[QS (by rw[h];simp),QV a]
theorem Jp(h:((o.rule==0)&&(o.s.toList == []))=false)(b:(o.s.toList == [36,91])=true)(a:dg I=false):cv z7 L (o :: y) N I=(I++[qN o 4],N):=by
 rw[cv.eq_def];simp only;rw[QS (by rw[h];simp),QS (by rw[b];simp),QV a]
theorem CN{a:Tk}(h:((o.rule==0)&&(o.s.toList == []))=false)(c:(o.s.toList == [36,91])=true)(d:dg I=true)(e:(dm L a.s a.rule==0)=false):cv z7 L (o :: a :: y) N I=(I++[qN a (dm L a.s a.rule)],N):=by
 rw[cv.eq_def];simp only;rw[QS (by rw[h];simp),QS (by rw[c];simp),QS (by rw[d];simp)]
 cases y with
 | nil=>rfl
 | cons b y=>simp only;rw[QV e]
theorem Jo{rec:Nat->List Bool->List Tk->List Tk×List Bool}{fs:Fs}{t a b:Tk}{r:List Tk}{sn:List Bool}(h:((t.rule==0)&&(t.s.toList == []))=false)(e:(t.s.toList == [36,91])=true)(c:dg y=true)(d:(dm fs a.s a.rule==0)=true):cv rec fs (t :: a :: b :: r) sn y =
  if(dI b.s b.rule==0)=false then(y++[qN b (dI b.s b.rule)],sn)
  else if sn.getD (bF fs a.s).toNat true=true then cv rec fs r sn y
  else if eu (rec (bF fs a.s).toNat sn y).1=true then rec (bF fs a.s).toNat sn y
  else cv rec fs r (rec (bF fs a.s).toNat sn y).2 (rec (bF fs a.s).toNat sn y).1:=by
 rw[cv.eq_def];simp only;rw[QS (by rw[h];simp),QS (by rw[e];simp),QS (by rw[c];simp),QS (by rw[d];simp)]
theorem BA:du H f T<(T:Int)+f.length∨f.length=0:=by
 induction f generalizing T with
 | nil=>exact QU rfl
 | cons b r a =>
  left
  rw[du]
  split
  ·simp;omega
  ·rcases a (T+1) with h | h
   ·simp at h ⊢;omega
   ·rw[Rj h,du];simp;omega
theorem Nn(h:0<=bF L D):bF L D<L.length:=by
 unfold bF at h ⊢
 rcases BA D L 0 with e | e
 ·simpa using e
 ·rw[Rj e,du]at h;omega
theorem EE{r:Int}(h:(dm L D r==0)=true):(D.toList == [])=false/\0<=bF L D:=by
 unfold dm at h
 cases a:(r==0)
 ·rw[QV a,a]at h;cases h
 ·rw[QS (by rw[a];simp)]at h
  cases b:(D.toList == [])
  ·rw[QS (by rw[b];simp)]at h
   refine⟨rfl,?_⟩
   split at h
   ·cases h
   ·split at h
    ·cases h
    ·omega
  ·rw[QV b]at h;cases h
theorem Jq(df:f.length<=4)(ch:∀k,(ak f k).size<=1024)(n:Nat):∀(k:Nat) (p:List Bool) (d:List Tk) (h:Hd) (P J:Nat) (w:World),aQ p<=n->p.length=f.length->f.length<=J->k<f.length->p[k]?=some false->d.length+2000*aQ p<=100000->rd w v T f P p h d ->
  Calls prog 82 #[.slice (some ⟨v,0,none⟩) f.length T,.int .i64 k,.slice (some ⟨P,0,none⟩) f.length J,.slice h.ao d.length h.cap] w fun e w'=>Kp w P p h d (dQ f n k p d) e w':=by
 induction n with
 | zero=>intro k p d h P J w hn b6 bg hk hs;have:=Fv p k hs;omega
 | succ n ih =>
  intro k p d h P J w hn b6 bg hk hs hb hI;have cB:=hI ih;clear ih;have c5:(k:Int)<(f.length:Int):=by omega
  have s0:=hI.seen.cell k false hs;have s1:=am hI.seen k;have db:=ae hI.seen;have cR:=hI.src.1;have k1:ab [P] w (w.setCell ⟨P,k,none⟩ (.bool true)):=(ab.refl [P] w).setCell (Q0 (by simp)) _;obtain⟨w1,az⟩:∃w1,Hid (w.setCell ⟨P,k,none⟩ (.bool true)=w1):=⟨_,rfl⟩
  rw[az.out]at k1;have R1:uX w w1 P h h:=⟨k1.mono (fun x hx _=>by simp at hx;simp[hx]),Q0 rfl⟩;have a6:rd w1 v T f P (p.set k true) h d:=hI.turn R1 (hI.own.Vf (fun q hq=>k1.block q (hI.own.lt hq) (by simp;intro e;exact hI.a1 (by rw[<-e];exact hq)))) (by rw[<-az.out];exact hI.seen.set k);have hu:=lB p k hs;have cz:(p.set k true).length=f.length:=by rw[Ru];exact b6
  obtain⟨c6,e1,cx,c0,c1⟩:=a6.src.2 k hk
  cases e1
  have c8:=ch k;have b1:=hI (Dd f k);have ap:=hI (ML f k);have bd:=hI (JZ f k);have HT:Hid (qU f k=bQ false (ij (aE f k) (ak f k))):=rfl;have HR:Hid (dQ f (n+1) k p d=cv (dQ f n) f (qU f k) (p.set k true) d):=rfl;have bz:=hI (xx (aE f k) (ak f k));have cb:=zs (aE f k) (ak f k);obtain⟨R,cE⟩:∃R,Hid (dQ f (n+1) k p d=R):=⟨_,rfl⟩
  rw[cE.out]at HR ⊢;have ax:=hI a6;have bv:=hI R1;clear a6 R1 k1 hI;go_enter func82,ntmps82
  go_upto_region 2 with fail
  rw[az.out]
  go_upto_region 3 with (go_at_call 115;refine(FH _ _ _ (by omega)).mono ?_;rintro e w2 ⟨hW,rfl,oW,kW,fW⟩)
  have N:=hI (GZ (ij (aE f k) (ak f k)) hW.ao hW.cap w2 (by omega) oW.src (fun t ht=>by have:=bz.out t ht;omega));rw[<-HT.out]at N
  go_upto_region 4 with (go_at_call 116;refine(QT N.out ?_);rintro e w3 ⟨hT,rfl,bT⟩)
  obtain⟨m,ct⟩:∃m,Hid (qU f k=m):=⟨_,rfl⟩
  rw[ct.out]at b1 ap bd HR bT ⊢
  have ck:0<m.length:=by
   obtain⟨u,e1,-⟩:=ap.out
   cases m with
   | nil=>cases e1
   | cons _ _=>simp
  obtain⟨gT,eT,dt,bo⟩:=qo bT.own ck;obtain⟨dp,Y⟩:=hT;simp only at eT;subst eT;have bo:m.length<=Y:=bo;have c7:m.length<=1026:=by have:=b1.out;omega
  have cA:Hid (Kf w w3 v T f P (p.set k true) h h d gT Y m):=by
   have f1:=bT.far gT rfl;have f2:=kW.size;have f3:=ae ax.out.seen;refine⟨(ax.out.Va kW).Va bT.kept,bv.out.trans (uX.of (bt.Va (kW.trans bT.kept))),bT.own,fun e=>?_,by omega⟩;have:=ax.out.own.lt e;omega
  obtain⟨U1,a4⟩:∃U1,Hid (aQ (p.set k true)=U1):=⟨_,rfl⟩
  obtain⟨U,L⟩:∃U,Hid (aQ p=U):=⟨_,rfl⟩
  rw[a4.out]at hu;rw[L.out]at hu hn hb;clear c0 c1 s0 s1 cx ax bv az oW kW fW N bT bz HT cb;go_wp2
  go_loopg [3,11] m.length (fun g o i wr=>∃(q:Nat) (V:Hd) (O:List Tk) (c:List Bool),q<=m.length/\g=m.length-q/\o=.slice V.ao O.length V.cap/\i=.int .i64 q/\(O.length+2000*aQ c<=d.length+q+2000*U1/\aQ c<=U1/\c.length=f.length)/\Hid (cv (dQ f n) f (m.drop q) c O=R)/\Hid (Kf w wr v T f P c h V O gT Y m))
  case atStart=>exact⟨0,h,d,p.set k true,by omega,rfl,rfl,rfl,⟨by rw[a4.out];omega,by rw[a4.out];omega,cz⟩,by show _=_;rw[UZ];exact HR.out.symm,cA⟩
  case round =>
   obtain⟨q,V,O,c,hq,hg,rfl,rfl,⟨z1,z2,z3⟩,HE,M⟩:=hrel;obtain⟨U2,j⟩:∃U2,Hid (aQ c=U2):=⟨_,rfl⟩
   rw[j.out]at z1 z2
   by_cases a5:q<m.length
   ·have ds:(q:Int)<(m.length:Int):=by omega
    obtain⟨c0,c1,c2,c3,c4⟩:=pY M.out.t rfl q m[q] (QO a5);have HD:=hI (Re a5);have b2:Hid ((m[q].s.toList == [])=false->q+1<m.length):=fun he=>uV.next ap.out q _ (QO a5) he
    rw[HD.out]at HE;obtain⟨bw,S⟩:∃bw,Hid (dg O=bw):=⟨_,rfl⟩
    have a3:=hI (zH O V.ao V.cap wr (by omega) M.out.i.own.src);rw[S.out]at a3;have dv:gT<wr.heap.size:=M.out.t.lt rfl;generalize m[q]=t at *;obtain⟨K,Q,tf,tl,tc⟩:=t;simp only at c0 c1 c2 c3 c4 b2
    go_upto_region 8 with (go_at_call 117;refine QT a3.out ?_;rintro e w4 ⟨rfl,be⟩;rw[be];clear be)
    clear a3
    go_cut [47] from 34 to 47 (fun cq wd=>cq=.bool ((Q==0)&&(K.toList == []))/\wd=wr)
    case first =>
     cases hr:(Q==0)
     ·go_wp2_with fail
      go_meet
      case rel=>exact⟨by rw[hr];rfl,rfl⟩
     ·cases he:(K.toList == [])
      ·go_wp2_with fail
       go_meet
       case rel=>exact⟨by rw[hr,he];rfl,rfl⟩
      ·go_wp2_with fail
       go_meet
       case rel=>exact⟨by rw[hr,he];rfl,rfl⟩
    case rest =>
     obtain⟨rfl,cc⟩:=hcut;subst cc
     cases hA:((Q==0)&&(K.toList == []))
     ·cases hi:(K.toList == [36,91])
      ·have H:Hid (cv (dQ f n) f (m.drop (q+1)) c (O++[⟨K,Q,tf,tl,tc⟩])=R):=by show _=_;rw[<-HE.out];exact(EZ hA hi).symm
       go_wp2_with (at_builtin;refine bY _ rfl (.tmp 66) (.tmp 71) rfl V O ⟨K,Q,tf,tl,tc⟩ rfl M.out.i.own (by omega) rfl ?_;intro h5 E z A;have HM:=hI (M.out.grew A z);clear z A)
       go_roundg (m.length-(q+1))
       case measure=>omega
       case rel=>exact⟨q+1,h5,O++[⟨K,Q,tf,tl,tc⟩],c,by omega,rfl,by simp,by go_num,⟨by rw[j.out];simp;omega,by rw[j.out];exact z2,z3⟩,H,HM⟩
      ·cases bw
       ·have H:Hid (R=(O++[qN ⟨K,Q,tf,tl,tc⟩ 4],c)):=by show _=_;rw[<-HE.out];exact Jp hA hi S.out
        have C:(O++[qN ⟨K,Q,tf,tl,tc⟩ 4]).length+2000*aQ c<=d.length+2000*aQ p:=by rw[j.out,L.out];simp;omega
        have l:aQ c<=aQ p:=by rw[j.out,L.out];omega
        go_wp2_with (at_builtin;refine bY _ rfl (.tmp 75) (.tmp 82) rfl V O (qN ⟨K,Q,tf,tl,tc⟩ 4) rfl M.out.i.own (by omega) rfl ?_;intro h5 E z A;have HM:=hI (M.out.grew A z);clear z A);go_ret;exact oL HM.out H.out (by omega) C l (by simp)
       ·have he:(K.toList == [])=false:=by
         have e:K.toList=[36,91]:=by simpa using hi
         rw[e];rfl
        have X:=b2.out he;obtain⟨d0,d1,d2,d3,d4⟩:=pY M.out.t rfl (q+1) m[q+1] (QO X);have cp:=hI (Re X);rw[cp.out]at HE;have cu:=bd.out m[q+1] (Ra X);have aT:Hid ((m[q+1].s.toList == [])=false->q+1+1<m.length):=fun he=>uV.next ap.out (q+1) _ (QO X) he
        have cs:Hid (m[q+1]?=some m[q+1]):=QO X;generalize m[q+1]=a at *;obtain⟨xs,ar,af,al,ac⟩:=a;simp only at d0 d1 d2 d3 d4 aT cu;have cV:(q:Int)+1<(m.length:Int):=by omega
        obtain⟨r1,ag⟩:∃r1,Hid (dm f xs ar=r1):=⟨_,rfl⟩
        have a7:=hI (EC f (some ⟨v,0,none⟩) T xs af ar al ac _ (by omega) M.out.i.src (by omega));rw[ag.out]at a7
        go_upto_region 17 with (go_at_call 118;refine QT a7.out ?_;rintro e E ⟨rfl,k5⟩)
        obtain⟨W5,an⟩:∃W5,Hid (E.alloc (.cells #[.string ⟨#[]⟩,.int .i64 r1,.string af,.int .i64 al,.int .i64 ac] 138)=W5):=⟨_,rfl⟩
        have G:W5.heap[E.heap.size]?=some (.cells #[.string ⟨#[]⟩,.int .i64 r1,.string af,.int .i64 al,.int .i64 ac] 138 (0,0)):=by rw[<-an.out];exact QR _ _
        have K5:=k5.trans (show ab [] E W5 by rw[<-an.out];exact(ab.refl [] _).alloc _);have a0:=hI (M.out.Va K5);have c9:=ae G;have ad:=k5.size;rw[an.out];clear c0 c1 c2 c3 c4 d0 d1 d2 d3 d4 an a7 k5;have p0:W5.cell? ⟨E.heap.size,0,none⟩=some (.string ⟨#[]⟩):=by rw[aa G];rfl
        have p1:W5.cell? ⟨E.heap.size,1,none⟩=some (.int .i64 r1):=by rw[aa G];rfl
        have p2:W5.cell? ⟨E.heap.size,2,none⟩=some (.string af):=by rw[aa G];rfl
        have p3:W5.cell? ⟨E.heap.size,3,none⟩=some (.int .i64 al):=by rw[aa G];rfl
        have p4:W5.cell? ⟨E.heap.size,4,none⟩=some (.int .i64 ac):=by rw[aa G];rfl
        cases h1:(r1==0)
        ·have H:Hid (R=(O++[qN ⟨xs,ar,af,al,ac⟩ r1],c)):=by show _=_;rw[<-HE.out,CN hA hi S.out (by show(dm f xs ar==0)=false;rw[ag.out];exact h1)];simp only;rw[ag.out]
         have C:(O++[qN ⟨xs,ar,af,al,ac⟩ r1]).length+2000*aQ c<=d.length+2000*aQ p:=by rw[j.out,L.out];simp;omega
         have l:aQ c<=aQ p:=by rw[j.out,L.out];omega
         go_wp2_with (at_builtin;refine bY _ rfl (.tmp 103) (.tmp 105) rfl V O (qN ⟨xs,ar,af,al,ac⟩ r1) rfl a0.out.i.own (by omega) rfl ?_;intro h5 w8 z A;have HM:=hI (a0.out.grew A z);clear z A);go_ret;exact oL HM.out H.out (by omega) C l (by simp)
        ·have cH:r1=0:=by simpa using h1
         subst cH;clear h1;have b0:Hid ((dm f xs ar==0)=true):=by show _=_;rw[ag.out];rfl
         obtain⟨cj,b4⟩:=EE b0.out;have b5:q+2<m.length:=aT.out cj;obtain⟨d0,d1,d2,d3,d4⟩:=pY a0.out.t rfl (q+2) m[q+2] (QO b5);have cL:Hid (m.drop (q+1+1)=m[q+2] :: m.drop (q+3)):=Re b5;rw[cL.out]at HE;generalize m[q+2]=b at *;obtain⟨bs,br,bf,bl,bc⟩:=b;simp only at d0 d1 d2 d3 d4;have cT:(q:Int)+2<(m.length:Int):=by omega
         obtain⟨r2,bx⟩:∃r2,Hid (dI bs br=r2):=⟨_,rfl⟩
         have ba:=hI (Bj bs bf br bl bc W5);rw[bx.out]at ba;have y:=hI (Jo (rec:=dQ f n) (fs:=f) (r:=m.drop (q+3)) (sn:=c) (t:=⟨K,Q,tf,tl,tc⟩) (a:=⟨xs,ar,af,al,ac⟩) (b:=⟨bs,br,bf,bl,bc⟩) hA hi S.out b0.out);rw[HE.out]at y;simp only at y;rw[bx.out]at y
         go_upto_region 19 with (go_at_call 119;refine QT ba.out ?_;rintro e w6 ⟨rfl,k6⟩;have B:=k6.get G (by simp);have f0:=am B 0;have f1:=am B 1;have f2:=am B 2;have f3:=am B 3;have f4:=am B 4;have o0:=aa B 0;have o1:=aa B 1;have o2:=aa B 2;have o3:=aa B 3;have o4:=aa B 4;have cX:=ae B)
         obtain⟨W,ai⟩:∃W,Hid (((((w6.setCell ⟨E.heap.size,0,none⟩ (.string ⟨#[]⟩)).setCell ⟨E.heap.size,1,none⟩ (.int .i64 r2)).setCell ⟨E.heap.size,2,none⟩ (.string bf)).setCell ⟨E.heap.size,3,none⟩ (.int .i64 bl)).setCell ⟨E.heap.size,4,none⟩ (.int .i64 bc)=W):=⟨_,rfl⟩
         have K6:=(show Hid (ab [] _ W) by rw[<-ai.out];exact(((((K5.trans k6).setCell (QU (by exact ad)) _).setCell (QU (by exact ad)) _).setCell (QU (by exact ad)) _).setCell (QU (by exact ad)) _).setCell (QU (by exact ad)) _);have F:=hI (M.out.Va K6.out)
         have BX:W.heap[E.heap.size]?=some (.cells #[.string ⟨#[]⟩,.int .i64 r2,.string bf,.int .i64 bl,.int .i64 bc] 138 (0,0)):=by
          rw[<-ai.out,ah (ah (ah (ah (ah B 0 _) 1 _) 2 _) 3 _) 4 _];rfl
         rw[ai.out];clear p0 p1 p2 p3 p4 d0 d1 d2 d3 d4 f0 f1 f2 f3 f4 o0 o1 o2 o3 o4 ba ai G B K6 k6 K5;have p0:W.cell? ⟨E.heap.size,0,none⟩=some (.string ⟨#[]⟩):=by rw[aa BX];rfl
         have p1:W.cell? ⟨E.heap.size,1,none⟩=some (.int .i64 r2):=by rw[aa BX];rfl
         have p2:W.cell? ⟨E.heap.size,2,none⟩=some (.string bf):=by rw[aa BX];rfl
         have p3:W.cell? ⟨E.heap.size,3,none⟩=some (.int .i64 bl):=by rw[aa BX];rfl
         have p4:W.cell? ⟨E.heap.size,4,none⟩=some (.int .i64 bc):=by rw[aa BX];rfl
         have dz:=ae BX
         cases h2:(r2==0)
         ·have H:Hid (R=(O++[qN ⟨bs,br,bf,bl,bc⟩ r2],c)):=by show _=_;rw[y.out,QV h2]
          have C:(O++[qN ⟨bs,br,bf,bl,bc⟩ r2]).length+2000*aQ c<=d.length+2000*aQ p:=by rw[j.out,L.out];simp;omega
          have l:aQ c<=aQ p:=by rw[j.out,L.out];omega
          go_wp2_with (at_builtin;refine bY _ rfl (.tmp 103) (.tmp 105) rfl V O (qN ⟨bs,br,bf,bl,bc⟩ r2) rfl F.out.i.own (by omega) rfl ?_;intro h5 w8 z A;have HM:=hI (F.out.grew A z);clear z A);go_ret;exact oL HM.out H.out (by omega) C l (by simp)
         ·have cF:r2=0:=by simpa using h2
          subst cF;clear h2;rw[QS (by simp)]at y;obtain⟨jn,bp⟩:∃jn:Nat,bF f xs=(jn:Int):=⟨(bF f xs).toNat,by omega⟩
          have ca:jn<f.length:=by have:=Nn b4;omega
          have dk:(jn:Int)<(f.length:Int):=by omega
          have cS:(0:Int)<=(jn:Int):=by omega
          have aS:=hI (mt f (some ⟨v,0,none⟩) T xs W (by omega) F.out.i.src);rw[bp]at aS y;rw[R9]at y;obtain⟨e0,-⟩:=pY F.out.t rfl (q+1) _ cs.out;simp only at e0;obtain⟨bj,a2⟩:∃bj,c[jn]?=some bj:=⟨_,QO (by omega)⟩
          have sj:=F.out.i.seen.cell jn bj a2;have cl:c.getD jn true=bj:=by rw[QP,a2];rfl
          rw[cl]at y;have dl:=ae F.out.i.seen;have cP:gT<W.heap.size:=F.out.t.lt rfl;clear bp b4
          cases bj
          ·rw[QS (by simp)]at y
           have Z:=hI (cB.out jn c O V P J W (by rw[j.out];omega) z3 bg ca a2 (by rw[j.out];omega) F.out.i);obtain⟨R7,co⟩:∃R7,Hid (dQ f n jn c O=R7):=⟨_,rfl⟩
           rw[co.out]at Z y;obtain⟨O7,I⟩:=R7
           go_upto_region 24 with (first | (go_at_call 35;refine QT aS.out ?_;rintro e w9 ⟨rfl,D⟩;rw[D];clear D) | (go_at_call 82;refine QT Z.out ?_;rintro e w7 ⟨h7,rfl,o7,s7,r7,l7,n7,u7⟩;have b3:=hI (F.out.turn r7 o7 s7)))
           clear p0 p1 p2 p3 p4 e0 sj Z aS BX;have l7:I.length=c.length:=l7;have n7:O7.length+2000*aQ I<=O.length+2000*aQ c:=n7;have u7:aQ I<=aQ c:=u7;obtain⟨bk,cf⟩:∃bk,Hid (eu O7=bk):=⟨_,rfl⟩
           have cy:O7.length<=100000:=by rw[j.out]at n7;omega
           have N:=hI (uB O7 h7.ao h7.cap w7 cy o7.src);rw[cf.out]at N y;rw[j.out]at n7 u7;clear o7 s7 r7
           cases bk
           ·have H:Hid (cv (dQ f n) f (m.drop (q+3)) I O7=R):=by show _=_;rw[y.out,QS (by simp)]
            go_wp2_with (go_at_call 83;refine QT N.out ?_;rintro e w9 ⟨rfl,D⟩;rw[D];clear D)
            go_roundg (m.length-(q+3))
            case measure=>omega
            case rel=>exact⟨q+3,h7,O7,I,by omega,rfl,rfl,by go_num,⟨by omega,by omega,by omega⟩,H,b3⟩
           ·have H:Hid (R=(O7,I)):=by show _=_;rw[y.out,QV rfl]
            have C:O7.length+2000*aQ I<=d.length+2000*aQ p:=by rw[L.out];omega
            have l:aQ I<=aQ p:=by rw[L.out];omega
            go_wp2_with (go_at_call 83;refine QT N.out ?_;rintro e w9 ⟨rfl,D⟩;rw[D];clear D);go_ret;exact oL b3.out H.out (by omega) C l rfl
          ·rw[QV rfl]at y
           go_wp2_with (go_at_call 35;refine QT aS.out ?_;rintro e w9 ⟨rfl,D⟩;rw[D];clear D)
           go_roundg (m.length-(q+3))
           case measure=>omega
           case rel=>exact⟨q+3,V,O,c,by omega,rfl,rfl,by go_num,⟨by rw[j.out];omega,by rw[j.out];exact z2,z3⟩,y.out.symm,F⟩
     ·cases bw
      ·have H:Hid (R=(O++[qN ⟨K,Q,tf,tl,tc⟩ 7],c)):=by show _=_;rw[<-HE.out];exact by rw[yX hA,QS (by rw[S.out];simp)]
       have C:(O++[qN ⟨K,Q,tf,tl,tc⟩ 7]).length+2000*aQ c<=d.length+2000*aQ p:=by rw[j.out,L.out];simp;omega
       have l:aQ c<=aQ p:=by rw[j.out,L.out];omega
       go_wp2_with (at_builtin;refine bY _ rfl (.tmp 50) (.tmp 57) rfl V O (qN ⟨K,Q,tf,tl,tc⟩ 7) rfl M.out.i.own (by omega) rfl ?_;intro h5 E z A;have HM:=hI (M.out.grew A z);clear z A);go_ret;exact oL HM.out H.out (by omega) C l (by simp)
      ·have H:Hid (R=(O,c)):=by show _=_;rw[<-HE.out,yX hA,QV S.out]
       have C:O.length+2000*aQ c<=d.length+2000*aQ p:=by rw[j.out,L.out];omega
       have l:aQ c<=aQ p:=by rw[j.out,L.out];omega
       go_wp2;go_ret;exact oL M.out H.out (by omega) C l rfl
   ·have e:q=m.length:=by omega
    subst e;have H:Hid (R=(O,c)):=by show _=_;rw[<-HE.out,List.drop_length,cv]
    have C:O.length+2000*aQ c<=d.length+2000*aQ p:=by rw[j.out,L.out];omega
    have l:aQ c<=aQ p:=by rw[j.out,L.out];omega
    go_wp2;go_ret;exact oL M.out H.out (by omega) C l rfl
theorem Lq:(prog.info? 4).map (fun i=>(i.zero,i.size,i.bytes))=some (some (.bool false),1,1):=by kernel_rfl
theorem wD:madeCells (Value.bool false).cells (T*1)=((List.replicate T false).map Value.bool).toArray:=by
 rw[UY]
 apply Array.ext
 ·rw[Ss];simp
 ·intro i a b
  have e:(Value.bool false).cells=#[.bool false]:=rfl;simp[madeCells,e,Nat.mod_one]
def pr(fs:Fs)(k:Nat):List Tk:=(dQ fs fs.length k (List.replicate fs.length false) []).1
def jf:Tk:=⟨⟨#[]⟩,0,⟨#[]⟩,0,0⟩
def cC(fs:Fs)(k:Nat):List Tk×Tk:=if eu (pr fs k)=true then((pr fs k).dropLast,(pr fs k).getLast?.getD jf) else(pr fs k,jf)
theorem mO:aQ (List.replicate T false)=T:=by
 unfold aQ;rw[List.countP_replicate];simp
theorem li.drop(h:li d g x y):li d g x y.dropLast:=by
 refine⟨by rw[SE];have:=h.1;omega,fun k t a=>h.2 k t ?_⟩;rw[List.getElem?_dropLast]at a
 split at a
 ·exact a
 ·cases a
theorem li.keptS{S:List Nat}(h:li d g x y)(k:ab S d M)(n:∀a,g=some ⟨a,0,none⟩->a∉S):li M g x y:=by
 refine⟨h.1,fun j t l=>?_⟩;obtain⟨a,e,b,p,f,m,c,i⟩:=h.2 j t l;have q:∀o,M.cell? ⟨a,o,none⟩=d.cell? ⟨a,o,none⟩:=fun o=>Q5 (k.block a b (n a e))
 exact⟨a,e,QW b k.size,by rw[q];exact p,by rw[q];exact f,by rw[q];exact m,by rw[q];exact c,by rw[q];exact i⟩
theorem sH{l n m k:Value}(h:d.heap[x]?=some (.cells #[l,n,m,k] 87 (0,0)))(a b c e:Value) :
  (d.setCell ⟨x,0,none⟩ a).cell? ⟨x,0,none⟩=some a/\((d.setCell ⟨x,0,none⟩ a).setCell ⟨x,1,none⟩ b).cell? ⟨x,1,none⟩=some b/\(((d.setCell ⟨x,0,none⟩ a).setCell ⟨x,1,none⟩ b).setCell ⟨x,2,none⟩ c).cell? ⟨x,2,none⟩=some c/\((((d.setCell ⟨x,0,none⟩ a).setCell ⟨x,1,none⟩ b).setCell ⟨x,2,none⟩ c).setCell ⟨x,3,none⟩ e).cell? ⟨x,3,none⟩=some e:=by
 have g:=ah h 0 a;have f:=ah g 1 b;have i:=ah f 2 c;have j:=ah i 3 e;exact⟨by rw[aa g];rfl,by rw[aa f];rfl,by rw[aa i];rfl,by rw[aa j];rfl⟩
theorem Ih(k:Nat)(w:World)(al:f.length<=4)(ai:∀k,(ak f k).size<=1024)(hk:k<f.length)(hO:mU w (some ⟨v,0,none⟩) T f)(hg:v<w.heap.size) :
  Calls prog 54 #[.slice (some ⟨v,0,none⟩) f.length T,.int .i64 k] w fun e w'=>∃ao c,e=.returned (.tuple #[.slice ao (cC f k).1.length c,.agg #[.int .i64 (cC f k).2.rule,.string (cC f k).2.file,.int .i64 (cC f k).2.line,.int .i64 (cC f k).2.col]])/\li w' ao c (cC f k).1/\ab [] w w'/\∀g,ao=some ⟨g,0,none⟩->w.heap.size<=g/\g<w'.heap.size:=by
 obtain⟨i1,a0,ag,ac,ap⟩:=Rd Lq;have m2:=fun w=>dB (P:=prog) w 134 4 i1 _ underlying134 a0 ag f.length 1 ac (by rw[ap];omega) (by omega)
 obtain⟨X,R⟩:∃X,Hid (madeCells (Value.bool false).cells (f.length*1)=X):=⟨_,rfl⟩
 have ax:Hid (X=((List.replicate f.length false).map Value.bool).toArray):=by show _=_;rw[<-R.out,wD]
 rw[R.out]at m2;have a1:=hO.1;obtain⟨W,O⟩:∃W,Hid ((w.alloc (.cells #[.int .i64 0,.string ⟨#[]⟩,.int .i64 0,.int .i64 0] 87)).alloc (.cells X 4)=W):=⟨_,rfl⟩
 have KW:ab [] w W:=by rw[<-O.out];exact((ab.refl [] _).alloc _).alloc _
 have SW:jy W (w.heap.size+1) (List.replicate f.length false):=by
  rw[<-O.out,ax.out];have:=QR (w.alloc (.cells #[.int .i64 0,.string ⟨#[]⟩,.int .i64 0,.int .i64 0] 87)) (.cells ((List.replicate f.length false).map Value.bool).toArray 4);simpa [jy] using this
 have Z:W.heap[w.heap.size]?=some (.cells #[.int .i64 0,.string ⟨#[]⟩,.int .i64 0,.int .i64 0] 87 (0,0)):=by
  rw[<-O.out];exact((ab.refl [] _).alloc _).get (QR _ _) (by simp)
 have hI:rd W v T f (w.heap.size+1) (List.replicate f.length false) ⟨none,0⟩ []:=⟨QY _ _ _ _,SW,hO.kept KW (by simp),(by intro e;cases e),(by intro e;cases e),by omega,QW hg KW.size⟩;have z:=hI (Jq f v T al ai f.length k (List.replicate f.length false) [] ⟨none,0⟩ (w.heap.size+1) f.length W (by rw[mO];omega) (by simp) (by omega) hk (by rw[Se];simp[hk]) (by rw[mO];simp;omega) hI);have b:=hI KW;clear hI SW KW hO;go_enter func54,ntmps54
 go_upto_region 2 with fail
 rw[O.out];obtain⟨Y,I⟩:∃Y,Hid (dQ f f.length k (List.replicate f.length false) []=Y):=⟨_,rfl⟩
 rw[I.out]at z;have x:Hid (pr f k=Y.1):=by show _=_;unfold pr;rw[I.out]
 obtain⟨L,af⟩:=Y;have x:Hid (pr f k=L):=x.out
 go_upto_region 3 with (go_at_call 82;refine QT z.out ?_;rintro e a ⟨d,rfl,Q,s7,V,l7,n7,u7⟩)
 have n7:L.length+2000*aQ af<=0+2000*aQ (List.replicate f.length false):=n7;rw[mO]at n7;have Q:aw a d (ir L):=Q;have hL:L.length<=100000:=by omega
 have C:ab [w.heap.size+1] W a:=V.kept;have l:=C.get Z (by simp)
 have B:Hid (∀g,d.ao=some ⟨g,0,none⟩->g∉[w.heap.size]):=fun g p U=>by
  have D:d.blk=some g:=by unfold Hd.blk;rw[p];rfl
  have e3:=ae Z;simp at U
  rcases V.blk with e | ⟨q,e,az⟩
  ·rw[D]at e;cases e
  ·rw[D]at e;cases e;omega
 have r:Hid (∀g,d.ao=some ⟨g,0,none⟩->w.heap.size<=g/\g<a.heap.size):=fun g p=>by
  have D:d.blk=some g:=by unfold Hd.blk;rw[p];rfl
  have e3:=ae Z;have e4:=Q.lt D
  rcases V.blk with e | ⟨q,e,az⟩
  ·rw[D]at e;cases e
  ·rw[D]at e;cases e;omega
 have A:Hid (ab [] w a):=⟨C.os.trans b.out.os,C.tape.trans b.out.tape,C.output.trans b.out.output,Q1 b.out.size C.size,fun q U _=>by rw[C.block q (QW U b.out.size) (by simp;omega),b.out.block q U (by simp)]⟩;obtain⟨bk,m⟩:∃bk,Hid (eu L=bk):=⟨_,rfl⟩
 have j:=hI (uB L d.ao d.cap a hL Q.src);rw[m.out]at j;have f0:=am l 0;have f1:=am l 1;have f2:=am l 2;have f3:=am l 3;have g0:a.cell? ⟨w.heap.size,0,none⟩=some (.int .i64 0):=by rw[aa l];rfl
 have g1:a.cell? ⟨w.heap.size,1,none⟩=some (.string ⟨#[]⟩):=by rw[aa l];rfl
 have g2:a.cell? ⟨w.heap.size,2,none⟩=some (.int .i64 0):=by rw[aa l];rfl
 have g3:a.cell? ⟨w.heap.size,3,none⟩=some (.int .i64 0):=by rw[aa l];rfl
 have y7:=ae l;have i:=hI Q.src;clear z Z O m2 V s7 l7 u7 b C
 cases bk
 ·have S:Hid (cC f k=(L,jf)):=by show _=_;unfold cC;rw[x.out,m.out,QS (by simp)]
  go_wp2_with (go_at_call 83;refine QT j.out ?_;rintro e w9 ⟨rfl,s⟩;rw[s];clear s);obtain⟨x0,x1,x2,x3⟩:=sH l (.int .i64 0) (.string ⟨#[]⟩) (.int .i64 0) (.int .i64 0);have J:ab [w.heap.size] a ((((a.setCell ⟨w.heap.size,0,none⟩ (.int .i64 0)).setCell ⟨w.heap.size,1,none⟩ (.string ⟨#[]⟩)).setCell ⟨w.heap.size,2,none⟩ (.int .i64 0)).setCell ⟨w.heap.size,3,none⟩ (.int .i64 0)):=((((ab.refl _ _).setCell (Q0 (by simp)) _).setCell (Q0 (by simp)) _).setCell (Q0 (by simp)) _).setCell (Q0 (by simp)) _;exact QX (v:=.tuple #[.slice d.ao L.length d.cap,.agg #[.int .i64 0,.string ⟨#[]⟩,.int .i64 0,.int .i64 0]]) (by simp[results,results54,go_sem,x0,x1,x2,x3]) rfl ⟨d.ao,d.cap,by rw[S.out];rfl,by rw[S.out];exact li.keptS i.out J B.out,(((A.out.setCell (QU (by simp)) _).setCell (QU (by simp)) _).setCell (QU (by simp)) _).setCell (QU (by simp)) _,fun g p=>⟨(r.out g p).1,QW (r.out g p).2 J.size⟩⟩
 ·have hn:0<L.length:=by
   cases an:L with
   | nil=>rw[an]at m;cases m.out
   | cons _ _=>simp
  obtain⟨n,o⟩:∃n,Hid (L.length=n):=⟨_,rfl⟩
  have N:n-1<L.length:=by rw[<-o.out];omega
  rw[o.out]at hn hL j ⊢;obtain⟨gs,p,a3,c0,c1,c2,c3,c4⟩:=i.out.2 (n-1) L[n-1] (QO N)
  have S:Hid (cC f k=(L.dropLast,L[n-1])):=by
   show _=_
   unfold cC;rw[x.out,m.out,QV rfl,SN,o.out,QO N];rfl
  have ar:Hid (L.dropLast.length=n-1):=by show _=_;rw[SE,o.out]
  have a2:n<=d.cap:=by have:=i.out.1;rw[o.out]at this;exact this
  generalize L[n-1]=t at *;obtain⟨ts,F,G,H,E⟩:=t;simp only at c0 c1 c2 c3 c4;have a4:IntKind.i64.wrap ((n:Int)-1)=(n:Int)-1:=by rw[R8];omega
  have a5:((n:Int)-1).toNat=n-1:=by omega
  have b1:(0:Int)<=(n:Int)-1:=by omega
  have b2:(n:Int)-1<(n:Int):=by omega
  have b3:(1:Int)<=(n:Int):=by omega
  have b4:(n:Int)-1<=(d.cap:Int):=by omega
  have b5:(0:Int)<(n:Int):=by omega
  rw[p]at j i B r ⊢;obtain⟨h,y⟩:∃h,Hid (a.alloc (.cells #[.string ts,.int .i64 F,.string G,.int .i64 H,.int .i64 E] 138)=h):=⟨_,rfl⟩
  go_upto_region 7 with (go_at_call 83;refine QT j.out ?_;rintro e w9 ⟨rfl,s⟩;rw[s];clear s)
  rw[y.out];have M:ab [] a h:=by rw[<-y.out];exact(ab.refl [] _).alloc _
  have K:h.heap[a.heap.size]?=some (.cells #[.string ts,.int .i64 F,.string G,.int .i64 H,.int .i64 E] 138 (0,0)):=by rw[<-y.out];exact QR _ _
  have u:=M.get l (by simp);have ad:=hI (li.drop (li.Va i.out M));have aS:=hI (A.out.trans M);have aT:=hI M.size;clear c0 c1 c2 c3 c4 f0 f1 f2 f3 g0 g1 g2 g3 j y l M A i;have p1:h.cell? ⟨a.heap.size,1,none⟩=some (.int .i64 F):=by rw[aa K];rfl
  have p2:h.cell? ⟨a.heap.size,2,none⟩=some (.string G):=by rw[aa K];rfl
  have p3:h.cell? ⟨a.heap.size,3,none⟩=some (.int .i64 H):=by rw[aa K];rfl
  have p4:h.cell? ⟨a.heap.size,4,none⟩=some (.int .i64 E):=by rw[aa K];rfl
  have f0:=am u 0;have f1:=am u 1;have f2:=am u 2;have f3:=am u 3;have g0:h.cell? ⟨w.heap.size,0,none⟩=some (.int .i64 0):=by rw[aa u];rfl
  have g1:h.cell? ⟨w.heap.size,1,none⟩=some (.string ⟨#[]⟩):=by rw[aa u];rfl
  have g2:h.cell? ⟨w.heap.size,2,none⟩=some (.int .i64 0):=by rw[aa u];rfl
  have g3:h.cell? ⟨w.heap.size,3,none⟩=some (.int .i64 0):=by rw[aa u];rfl
  have y8:=ae K;have y9:=ae u
  go_region
  go_wp2;obtain⟨x0,x1,x2,x3⟩:=sH u (.int .i64 F) (.string G) (.int .i64 H) (.int .i64 E);have J:ab [w.heap.size] h ((((h.setCell ⟨w.heap.size,0,none⟩ (.int .i64 F)).setCell ⟨w.heap.size,1,none⟩ (.string G)).setCell ⟨w.heap.size,2,none⟩ (.int .i64 H)).setCell ⟨w.heap.size,3,none⟩ (.int .i64 E)).drew:=(((((ab.refl _ _).setCell (Q0 (by simp)) _).setCell (Q0 (by simp)) _).setCell (Q0 (by simp)) _).setCell (Q0 (by simp)) _).drew;exact QX (v:=.tuple #[.slice (some ⟨gs,0,none⟩) (n-1) d.cap,.agg #[.int .i64 F,.string G,.int .i64 H,.int .i64 E]]) (by simp[results,results54,go_sem,x0,x1,x2,x3]) rfl ⟨some ⟨gs,0,none⟩,d.cap,by rw[S.out,ar.out],by rw[S.out];exact li.keptS ad.out J B.out,((((aS.out.setCell (QU (by simp)) _).setCell (QU (by simp)) _).setCell (QU (by simp)) _).setCell (QU (by simp)) _).drew,fun g p=>⟨(r.out g p).1,QW (r.out g p).2 (Q1 aT.out J.size)⟩⟩
structure Sm where
 a:Nat
 z:Nat
 h:Nat
 k:ByteArray
def AY(w:World)(ao:Option Addr)(cap:Nat)(S:List Sm):Prop:=S.length<=cap/\∀k s,S[k]?=some s->∃g,ao=some ⟨g,0,none⟩/\g<w.heap.size /\
  w.cell? ⟨g,k*4,none⟩=some (.int .i64 s.a)/\w.cell? ⟨g,k*4+1,none⟩=some (.int .i64 s.z)/\w.cell? ⟨g,k*4+2,none⟩=some (.int .i64 s.h)/\w.cell? ⟨g,k*4+3,none⟩=some (.string s.k)
theorem AY.Va{S:List Sm}(h:AY d g x S)(k:ab [] d M):AY M g x S:=by
 refine⟨h.1,fun j t i=>?_⟩;obtain⟨a,e,b,m,f,l,c⟩:=h.2 j t i;have q:∀o,M.cell? ⟨a,o,none⟩=d.cell? ⟨a,o,none⟩:=fun o=>Q5 (k.block a b (by simp))
 exact⟨a,e,QW b k.size,by rw[q];exact m,by rw[q];exact f,by rw[q];exact l,by rw[q];exact c⟩
structure fz(w:World)(b:Nat)(T:List Tk)(aoT:Option Addr)(cT:Nat)(S:List Sm)(aoS:Option Addr)(cS:Nat):Prop where
 d:w.heap[b]?=some (.cells #[.slice aoT T.length cT,.slice aoS S.length cS] 141 (0,0))
 t:li w aoT cT T
 s:AY w aoS cS S
theorem fz.Va{S:List Sm}(h:fz d x y g z0 S y0 z5)(k:ab [] d M):fz M x y g z0 S y0 z5 :=
 ⟨k.get h.d (by simp),h.t.Va k,h.s.Va k⟩
theorem fz.cells{S:List Sm}(h:fz d x y g z0 S y0 z5):d.cell? ⟨x,0,none⟩=some (.slice g y.length z0)/\d.cell? ⟨x,1,none⟩=some (.slice y0 S.length z5)/\x<d.heap.size :=
 ⟨by rw[aa h.d];rfl,by rw[aa h.d];rfl,ae h.d⟩
def aC(k:ByteArray):Bool:=(k.toList == [36,97])||(k.toList == [36,112])
def aG(k:ByteArray):Bool:=(k.toList == [36,102])||(k.toList == [36,101])
theorem fT :
  Calls prog 122 #[.string n] i fun e a=>e=.returned (.bool (aC n))/\a=i:=by
 go_enter func122,ntmps122;go_wp2
 all_goals go_ret
 all_goals (refine⟨?_,rfl⟩;simp[aC, *])
theorem lI :
  Calls prog 123 #[.string n] i fun e a=>e=.returned (.bool (aG n))/\a=i:=by
 go_enter func123,ntmps123;go_wp2
 all_goals go_ret
 all_goals (refine⟨?_,rfl⟩;simp[aG, *])
def ge(w:World)(ao:Option Addr)(L:List ByteArray):Prop:=∀k x,L[k]?=some x->∃g,ao=some ⟨g,0,none⟩/\g<w.heap.size/\w.cell? ⟨g,k,none⟩=some (.string x)
theorem aw.srcX(o:aw d z4 (aB zb)):ge d z4.ao zb:=by
 intro k x a
 rcases o.ways with ⟨_,b,_⟩ | ⟨g,e,c,f,h,-⟩
 ·have b:zb.length=0:=b
  have:=(Q7.1 a).1;omega
 ·exact⟨g,c,ae f,o.cell c k (.string x) (by simp[aB,cN,a])⟩
theorem Nu(a:T<S.length)(h:(S[T].toList==n.toList)=true):aJ S n=true:=by
 unfold aJ;exact RB.2 ⟨S[T],Ra a,h⟩
theorem Nv(h:∀k (a:k<S.length),(S[k].toList==n.toList)=false):aJ S n=false:=by
 unfold aJ;rw[TG];intro y b;obtain⟨k,a,e⟩:=RZ b;have:=h k a;rw[e]at this;rw[this];simp
theorem j9(f:ge i a S)(x:S.length<=1000000000) :
  Calls prog 93 #[.slice a S.length v,.string n] i fun e r=>e=.returned (.bool (aJ S n))/\r=i:=by
 have u:=hI f;clear f;go_enter func93,ntmps93;go_wp2
 go_loopg [5] S.length (fun g o wr=>∃k:Nat,k<=S.length/\g=S.length-k/\o=.int .i64 k/\Hid (∀j (b:j<S.length),j<k->(S[j].toList==n.toList)=false)/\wr=i)
 case atStart=>exact⟨0,by omega,by omega,rfl,(fun j _ h=>by omega),rfl⟩
 case round =>
  obtain⟨k,w,B,rfl,l,rfl⟩:=hrel
  by_cases c:k<S.length
  ·obtain⟨A,rfl,q,C⟩:=u.out k S[k] (QO c)
   have s:(k:Int)<(S.length:Int):=by omega
   have t:Hid ((S[k].toList==n.toList)=true->aJ S n=true):=Nu S n k c
   have p:Hid ((S[k].toList==n.toList)=false->∀j (b:j<S.length),j<k+1->(S[j].toList==n.toList)=false):=fun h j b z=>by
    by_cases e:j=k
    ·subst e;exact h
    ·exact l.out j b (by omega)
   generalize S[k]=y at *
   cases m:(y.toList==n.toList)
   ·have d:Hid (∀j (b:j<S.length),j<k+1->(S[j].toList==n.toList)=false):=p.out m
    go_wp2
    go_roundg (S.length-(k+1))
    case measure=>omega
    case rel=>exact⟨k+1,by omega,rfl,by go_num,d,rfl⟩
   ·have d:Hid (aJ S n=true):=t.out m
    go_wp2;go_ret;exact⟨aD d.out.symm,rfl⟩
  ·have d:Hid (aJ S n=false):=Nv S n (fun j b=>l.out j b (by omega))
   go_wp2;go_ret;exact⟨aD d.out.symm,rfl⟩
def tS(T:List Tk)(i:Nat):ByteArray:=(T.getD i jf).s
theorem iw(h:T<w.length):w[T]?=some (w.getD T jf):=by
 rw[QP,QO h];rfl
def ew(T:List Tk)(b:Nat):ByteArray×Nat:=if(ii (tS T b) ⟨#[36]⟩||decide (T.length<=b+1))=true then(tS T b,b+1) else(tS T (b+1),b+2)
theorem Gn(S:List Sm)(k:Option Addr)(K:Nat)(d:World)(p:fz d l w a T S k K)(B:b<w.length)(J:w.length<=100000)(H:∀i,(tS w i).size<=1073741824) :
  Calls prog 85 #[.pointer (some ⟨l,0,none⟩),.int .i64 b] d fun e G=>e=.returned (.tuple #[.string (ew w b).1,.int .i64 ((ew w b).2:Nat)])/\G=d:=by
 obtain⟨D,-,M⟩:=p.cells;obtain⟨z,rfl,I,u,-⟩:=p.t.2 b _ (iw w b B);replace u:d.cell? ⟨z,b*5,none⟩=some (.string (tS w b)):=u;have s:(b:Int)<(w.length:Int):=by omega
 have q:=H b;have g:((b+1:Nat):Int)=(b:Int)+1:=by omega
 have r:((b+2:Nat):Int)=(b:Int)+2:=by omega
 obtain⟨x,j⟩:∃x,Hid (tS w b=x):=⟨_,rfl⟩
 rw[j.out]at u q;obtain⟨n,h⟩:∃n,Hid (w.length=n):=⟨_,rfl⟩
 rw[h.out]at D s J
 cases o:ii x ⟨#[36]⟩
 ·by_cases L:n<=b+1
  ·have f:Hid (ew w b=(x,b+1)):=by show _=_;unfold ew;rw[j.out,o,h.out,QV (by simp;omega)]
   have m:(n:Int)<=(b:Int)+1:=by omega
   go_enter func85,ntmps85;go_wp2_with (go_at_call 120;refine(fF x _ _ (by omega) (by show 1<=_;omega)).mono ?_;rintro e A ⟨rfl,c⟩;rw[c];clear c);go_ret2;exact⟨by rw[f.out];show _=Ending.returned (.tuple #[.string x,.int .i64 ((b+1:Nat):Int)]);rw[g];rfl,rfl⟩
  ·have f:Hid (ew w b=(tS w (b+1),b+2)):=by show _=_;unfold ew;rw[j.out,o,h.out,QS (by simp;omega)]
   have m:¬(n:Int)<=(b:Int)+1:=by omega
   have F:(b:Int)+1<(n:Int):=by omega
   obtain⟨C,E,-,v,-⟩:=p.t.2 (b+1) _ (iw w (b+1) (by rw[h.out];omega))
   cases E
   replace v:d.cell? ⟨z,(b+1)*5,none⟩=some (.string (tS w (b+1))):=v;generalize tS w (b+1)=y at *;go_enter func85,ntmps85;go_wp2_with (go_at_call 120;refine(fF x _ _ (by omega) (by show 1<=_;omega)).mono ?_;rintro e A ⟨rfl,c⟩;rw[c];clear c);go_ret2;exact⟨by rw[f.out];show _=Ending.returned (.tuple #[.string y,.int .i64 ((b+2:Nat):Int)]);rw[r];rfl,rfl⟩
 ·have f:Hid (ew w b=(x,b+1)):=by show _=_;unfold ew;rw[j.out,o,QV (by simp)]
  go_enter func85,ntmps85;go_wp2_with (go_at_call 120;refine(fF x _ _ (by omega) (by show 1<=_;omega)).mono ?_;rintro e A ⟨rfl,c⟩;rw[c];clear c);go_ret2;exact⟨by rw[f.out];show _=Ending.returned (.tuple #[.string x,.int .i64 ((b+1:Nat):Int)]);rw[g];rfl,rfl⟩
def qD:Int->List Sm->Bool
 | _,[]=>true
 | o,s :: r=>if aO o s.k<0 then false else qD (aO o s.k) r
def aV(S:List Sm)(j n:Nat):Bool:=qD 0 ((S.drop j).take (n-j))
def bb(S:List Sm)(n:Nat):Int:=(S.take n).foldl (fun o s=>aO o s.k) 0
theorem uF(S:List Sm)(k:Nat)(h:k<S.length):bb S (k+1)=aO (bb S k) S[k].k:=by
 unfold bb;rw[RC h,Sv];rfl
theorem Dg(b:(D.toList == [36,123])=true)(a:(D.toList == [36,125])=true):False:=by
 have c:D.toList=[36,123]:=by simpa using b
 rw[c]at a;exact absurd a (by decide)
theorem DQ(S:List Sm)(p:Option Addr)(D:Nat)(n:World)(q:fz n l w a T S p D)(G:b<=S.length)(K:S.length<=100000) :
  Calls prog 168 #[.pointer (some ⟨l,0,none⟩),.int .i64 b] n fun e A=>e=.returned (.int .i64 (bb S b))/\A=n:=by
 obtain⟨-,N,O⟩:=q.cells;have y:=hI q.s.2;clear q;go_enter func168,ntmps168;go_wp2
 go_loopg [5,6] b (fun g o i wr=>∃(k:Nat) (m:Int),k<=b/\g=b-k/\o=.int .i64 m/\i=.int .i64 k/\(-(k:Int)<=m/\m<=(k:Int))/\Hid (m=bb S k)/\wr=n)
 case atStart=>exact⟨0,0,by omega,rfl,rfl,rfl,by omega,rfl,rfl⟩
 case round =>
  obtain⟨k,m,F,M,rfl,rfl,I,v,rfl⟩:=hrel
  by_cases x:k<b
  ·have d:k<S.length:=by omega
   obtain⟨L,rfl,z,-,-,-,B⟩:=y.out k S[k] (QO d);have f:=hI (uF S k d);have C:(k:Int)<(b:Int):=by omega
   have u:(k:Int)<(S.length:Int):=by omega
   rw[<-v.out]at f;generalize S[k]=t at *;obtain⟨H,J,E,r⟩:=t;simp only at B f
   cases j:(r.toList == [36,123])
   ·cases c:(r.toList == [36,125])
    ·have h:Hid (m=bb S (k+1)):=by show _=_;rw[f.out,aO,j,c];simp
     go_wp2
     go_roundg (b-(k+1))
     case measure=>omega
     case rel=>exact⟨k+1,m,by omega,rfl,rfl,by go_num,by omega,h,rfl⟩
    ·have h:Hid (m-1=bb S (k+1)):=by show _=_;rw[f.out,aO,j,c];simp
     go_wp2
     go_roundg (b-(k+1))
     case measure=>omega
     case rel=>exact⟨k+1,m-1,by omega,rfl,by go_num,by go_num,by omega,h,rfl⟩
   ·cases c:(r.toList == [36,125])
    ·have h:Hid (m+1=bb S (k+1)):=by show _=_;rw[f.out,aO,j,c];simp
     go_wp2
     go_roundg (b-(k+1))
     case measure=>omega
     case rel=>exact⟨k+1,m+1,by omega,rfl,by go_num,by go_num,by omega,h,rfl⟩
    ·exact(Dg j c).elim
  ·have e:k=b:=by omega
   subst e;go_wp2;go_ret;exact⟨QM v.out,rfl⟩
theorem Ku(S:List Sm)(k n:Nat)(h:k<n)(a:n<=S.length):(S.drop k).take (n-k)=S[k]'(by omega) :: (S.drop (k+1)).take (n-(k+1)):=by
 rw[Re (by omega),show n-k=(n-(k+1))+1 by omega,List.take_succ_cons]
theorem lj(S:List Sm)(r:Option Addr)(J:Nat)(q:World)(v:fz q k w a T S r J)(U:l<=b)(C:b<=S.length)(P:S.length<=100000) :
  Calls prog 92 #[.pointer (some ⟨k,0,none⟩),.int .i64 l,.int .i64 b] q fun e G=>e=.returned (.bool (aV S l b))/\G=q:=by
 obtain⟨-,V,W⟩:=v.cells;have D:=hI v.s.2;clear v;go_enter func92,ntmps92;go_wp2
 go_loopg [7,8] (b-l) (fun g o i wr=>∃(c:Nat) (m:Int),(l<=c/\c<=b)/\g=b-c/\o=.int .i64 m/\i=.int .i64 c/\(0<=m/\m<=(c:Int))/\Hid (aV S l b=qD m ((S.drop c).take (b-c)))/\wr=q)
 case atStart=>exact⟨l,0,⟨by omega,by omega⟩,rfl,rfl,rfl,by omega,rfl,rfl⟩
 case round =>
  obtain⟨c,m,⟨B,L⟩,R,rfl,rfl,N,f,rfl⟩:=hrel
  by_cases x:c<b
  ·have u:c<S.length:=by omega
   obtain⟨Q,rfl,E,-,-,-,H⟩:=D.out c S[c] (QO u);have F:=hI (Ku S c b x C);rw[F.out,qD]at f;have I:(c:Int)<(b:Int):=by omega
   have z:(c:Int)<(S.length:Int):=by omega
   generalize S[c]=t at *;obtain⟨M,O,K,h⟩:=t;simp only at H f
   cases p:(h.toList == [36,123])
   ·cases n:(h.toList == [36,125])
    ·have d:Hid (aV S l b=qD m ((S.drop (c+1)).take (b-(c+1)))):=by
      have j:aO m h=m:=by unfold aO;rw[p,n];simp
      have:=f.out;rw[j,QS (by omega)]at this;exact this
     have y:¬m<0:=by omega
     go_wp2
     go_roundg (b-(c+1))
     case measure=>omega
     case rel=>exact⟨c+1,m,⟨by omega,by omega⟩,rfl,rfl,by go_num,by omega,d,rfl⟩
    ·have j:aO m h=m-1:=by unfold aO;rw[p,n];simp
     rw[j]at f
     by_cases A:m-1<0
     ·have d:Hid (aV S l b=false):=by
       have:=f.out;rw[QV A]at this;exact this
      go_wp2;go_ret;exact⟨aD d.out.symm,rfl⟩
     ·have d:Hid (aV S l b=qD (m-1) ((S.drop (c+1)).take (b-(c+1)))):=by
       have:=f.out;rw[QS A]at this;exact this
      go_wp2
      go_roundg (b-(c+1))
      case measure=>omega
      case rel=>exact⟨c+1,m-1,⟨by omega,by omega⟩,rfl,by go_num,by go_num,by omega,d,rfl⟩
   ·cases n:(h.toList == [36,125])
    ·have d:Hid (aV S l b=qD (m+1) ((S.drop (c+1)).take (b-(c+1)))):=by
      have j:aO m h=m+1:=by unfold aO;rw[p,n];simp
      have:=f.out;rw[j,QS (by omega)]at this;exact this
     have y:¬m+1<0:=by omega
     go_wp2
     go_roundg (b-(c+1))
     case measure=>omega
     case rel=>exact⟨c+1,m+1,⟨by omega,by omega⟩,rfl,by go_num,by go_num,by omega,d,rfl⟩
    ·exact(Dg p n).elim
  ·have e:c=b:=by omega
   subst e;have d:Hid (aV S l c=true):=by show _=_;rw[f.out,RV,Tp,qD]
   go_wp2;go_ret;exact⟨aD d.out.symm,rfl⟩
def mL(s:ByteArray):Bool:=(s.toList == [36,61])||(s.toList == [36,46])
def kc:List Tk->List ByteArray
 | []=>[]
 | t :: r=>if mL t.s=true then [] else t.s :: kc r
def bu(T:List Tk)(h:Nat):List ByteArray:=kc (T.drop h)
def cU(T:List Tk)(h:Nat):Prop:=∃e,h<=e/\e<T.length/\mL (tS T e)=true
theorem Gb(h:T<w.length):w.drop T=w.getD T jf :: w.drop (T+1):=by
 rw[Re h,QP,QO h];rfl
theorem Hb:(kc w).length<=w.length:=by
 induction w with
 | nil=>exact QQ _
 | cons t r a=>rw[kc];split <;> simp <;> omega
theorem ke:(bu w T).length<=w.length:=by
 have:=Hb (w.drop T);rw[RQ]at this;unfold bu;omega
structure vi(w wr:World)(h:Hd)(O:List ByteArray):Prop where
 own:aw wr h (aB O)
 far:∀k,h.blk=some k->w.heap.size<=k
 kept:ab [] w wr
theorem vi.nil:vi i i ⟨none,0⟩ []:=⟨QY _ _ _ _,(by intro k a;cases a),ab.refl _ _⟩
theorem vi.Va(a:vi d M z4 zb)(k:ab [] M zt):vi d zt z4 zb:=⟨a.own.Va k,a.far,a.kept.trans k⟩
theorem vi.grew{f:List ByteArray}(a:vi d M z4 zb)(g:bt M zt z4 z6)(o:aw zt z6 (aB f)):vi d zt z6 f:=by
 refine⟨o,fun k b=>?_,⟨g.kept.os.trans a.kept.os,g.kept.tape.trans a.kept.tape,g.kept.output.trans a.kept.output,Q1 a.kept.size g.kept.size,fun k b _=>?_⟩⟩
 ·rcases g.blk with e | ⟨q,e,c⟩
  ·exact a.far k (by rw[<-e];exact b)
  ·rw[e]at b;cases b
   exact Q1 a.kept.size c
 ·rw[g.kept.block k (QW b a.kept.size) (fun c=>by have:=a.far _ (aN c);omega),a.kept.block k b (by simp)]
theorem po{e:Array Oper}{b:List Oper}{o:Oper}{a:Act}{Q:Exit->Act->World->Prop}(E:o.guard=none)(s x:Operand)(n:o.op=Op.call { callee:=Callee.builtin Builtin.append,args:=#[s,x],argTypes:=#[61,61] })(h:Hd)(L:List ByteArray)(t:ByteArray)(G:a.eval s=.slice h.ao L.length h.cap)(g:aw i h (aB L))(I:L.length<=1000000)(H:a.eval x=.slice (some ⟨i.heap.size,0,none⟩) 1 1)(D:∀k q,aw q k (aB (L++[t]))->bt i q h k->wpList prog e Q b (a.put o.dst (.slice k.ao (L.length+1) k.cap)) q) :
  wpList prog e Q (o :: b) a (i.alloc (.cells #[.string t] 9)):=by
 obtain⟨z,A,l,m,r⟩:=Rd js;have v:ab [] i (i.alloc (.cells #[.string t] 9)):=(ab.refl [] _).alloc _;have w:(i.alloc (.cells #[.string t] 9)).heap[i.heap.size]?=some (.cells #[.string t] 9 (0,0)):=QR _ _;refine aM _ E s x 61 n z (.string ⟨#[]⟩) 16 h (aB L) underlying61 A l m r rfl Rb G (g.Va v) ⟨i.heap.size,0,none⟩ 1 1 [.string t] H rfl ?_ ?_ Rb (by simp only[aB];unfold maxLen;omega) (by simp only[aB];omega) ?_
 ·intro j u F
  rw[bL,aa w];simpa using F
 ·intro u C
  rw[Q8.1 C];rfl
 ·intro B c y d f p
  rw[dr]at d;exact D ⟨some ⟨B,0,none⟩,c⟩ y d ((bt.Va v).trans (bt.made f p))
theorem kC(S:List Sm)(A:Option Addr)(cS:Nat)(r:World)(v:fz r l w a T S A cS)(hj:b<S.length)(hT:w.length<=100000)(L:cU w S[b].h) :
  Calls prog 72 #[.pointer (some ⟨l,0,none⟩),.int .i64 b] r fun e Y=>∃c,e=.returned (.slice c.ao (bu w S[b].h).length c.cap)/\vi r Y c (bu w S[b].h):=by
 obtain⟨gS,rfl,ai,-,-,I,-⟩:=v.s.2 b S[b] (QO hj);generalize S[b].h=d at *;obtain⟨e,e1,U,e3⟩:=L;obtain⟨R,rfl,ag,-⟩:=v.t.2 e _ (iw w e U);have V:=hI v;obtain⟨G,c1,hb⟩:=v.cells;have ad:(b:Int)<(S.length:Int):=by omega
 have X:=hI (vi.nil r);clear v;go_enter func72,ntmps72;go_wp2;clear G c1 I
 go_loopg [5,6] (w.length-d) (fun g o i wr=>∃(k:Nat) (c:Hd) (O:List ByteArray),(d<=k/\k<=e)/\g=w.length-k/\o=.slice c.ao O.length c.cap/\i=.int .i64 k/\O.length<=k/\Hid (O++kc (w.drop k)=bu w d)/\Hid (vi r wr c O))
 case atStart=>exact⟨d,⟨none,0⟩,[],⟨by omega,by omega⟩,rfl,rfl,rfl,Rn _,rfl,X⟩
 case round =>
  obtain⟨k,c,O,⟨Z,ac⟩,hg,rfl,rfl,hO,j,m⟩:=hrel;have u:k<w.length:=by omega
  have y:=hI (fz.Va V.out m.out.kept);obtain⟨G,-,N⟩:=y.out.cells;obtain⟨J,M,P,E,-⟩:=y.out.t.2 k _ (iw w k u)
  cases M
  replace E:wr.cell? ⟨R,k*5,none⟩=some (.string (tS w k)):=E;have af:(k:Int)<(w.length:Int):=by omega
  have Q:=hI (Gb w k u);rw[Q.out,kc]at j;have j:Hid (O++(if mL (tS w k)=true then [] else tS w k :: kc (w.drop (k+1)))=bu w d):=j.out;have z:Hid (k=e->mL (tS w k)=true):=fun h=>by rw[h];exact e3
  obtain⟨x,W⟩:∃x,Hid (tS w k=x):=⟨_,rfl⟩
  rw[W.out]at E j z;have F:=m.out.own;obtain⟨n,Hn⟩:∃n,Hid (w.length=n):=⟨_,rfl⟩
  cases B:(x.toList == [36,61])
  ·cases C:(x.toList == [36,46])
   ·have H:k<e:=by
     have:¬k=e:=fun h=>by have:=z.out h;unfold mL at this;rw[B,C]at this;cases this
     omega
    have f:Hid ((O++[x])++kc (w.drop (k+1))=bu w d):=by
     have:=j.out;rw[QS (by unfold mL;rw[B,C];simp)]at this
     show _=_
     rw[<-this];simp
    go_wp2_with (at_builtin;refine po _ rfl (.tmp 37) (.tmp 46) rfl c O x rfl F (by omega) rfl ?_;intro K w5 p q;have D:=hI (m.out.grew q p);clear p q)
    go_roundg (w.length-(k+1))
    case measure=>omega
    case rel=>exact⟨k+1,K,O++[x],⟨by omega,by omega⟩,rfl,by simp,by go_num,by simp;omega,f,D⟩
   ·have f:Hid (bu w d=O):=by
     have:=j.out;rw[QV (by unfold mL;rw[C];simp)]at this
     show _=_
     rw[<-this];simp
    go_wp2;go_ret;exact⟨c,by rw[f.out];rfl,by rw[f.out];exact m.out⟩
  ·have f:Hid (bu w d=O):=by
    have:=j.out;rw[QV (by unfold mL;rw[B];simp)]at this
    show _=_
    rw[<-this];simp
   go_wp2;go_ret;exact⟨c,by rw[f.out];rfl,by rw[f.out];exact m.out⟩
def bG(T:List Tk)(s:Sm):ByteArray:=if(aC s.k||aG s.k)=true then tS T s.a else⟨#[]⟩
theorem nP(S:List Sm)(n:Option Addr)(H:Nat)(f:World)(j:fz f l w a T S n H)(B:b<S.length)(r:S[b].a<w.length) :
  Calls prog 87 #[.pointer (some ⟨l,0,none⟩),.int .i64 b] f fun e A=>e=.returned (.string (bG w S[b]))/\ab [] f A:=by
 obtain⟨K,rfl,G,E,-,-,C⟩:=j.s.2 b S[b] (QO B);obtain⟨y,rfl,F,m,-⟩:=j.t.2 S[b].a _ (iw w _ r);have g:Hid (bG w S[b]=if(aC S[b].k||aG S[b].k)=true then tS w S[b].a else⟨#[]⟩):=rfl;replace m:f.cell? ⟨y,S[b].a*5,none⟩=some (.string (tS w S[b].a)):=m;generalize bG w S[b]=R at *;generalize S[b]=s at *;obtain⟨p,L,I,d⟩:=s;simp only at E C m g r;obtain⟨x,z⟩:∃x,Hid (tS w p=x):=⟨_,rfl⟩
 rw[z.out]at m g;obtain⟨J,M,N⟩:=j.cells;have D:(b:Int)<(S.length:Int):=by omega
 have v:(p:Int)<(w.length:Int):=by omega
 have q:(0:Int)<=(p:Int):=by omega
 clear j
 cases o:aC d
 ·cases u:aG d
  ·have i:Hid (R=⟨#[]⟩):=by show _=_;rw[g.out,o,u];rfl
   go_enter func87,ntmps87;go_wp2_with (first | (go_at_call 122;refine(fT d _).mono ?_;rintro e h ⟨rfl,c⟩;rw[c];clear c) | (go_at_call 123;refine(lI d _).mono ?_;rintro e h ⟨rfl,c⟩;rw[c];clear c));go_ret;exact⟨by rw[i.out];rfl,ab.refl _ _⟩
  ·have i:Hid (R=x):=by show _=_;rw[g.out,o,u];rfl
   go_enter func87,ntmps87
   go_upto_region 4 with (first | (go_at_call 122;refine(fT d _).mono ?_;rintro e h ⟨rfl,c⟩;rw[c];clear c) | (go_at_call 123;refine(lI d _).mono ?_;rintro e h ⟨rfl,c⟩;rw[c];clear c))
   go_region
   all_goals
    go_wp2;go_ret;exact⟨by rw[i.out];rfl,(ab.refl [] f).drew⟩
 ·have i:Hid (R=x):=by show _=_;rw[g.out,o];rfl
  go_enter func87,ntmps87
  go_upto_region 4 with (first | (go_at_call 122;refine(fT d _).mono ?_;rintro e h ⟨rfl,c⟩;rw[c];clear c) | (go_at_call 123;refine(lI d _).mono ?_;rintro e h ⟨rfl,c⟩;rw[c];clear c))
  go_region
  all_goals
   go_wp2;go_ret;exact⟨by rw[i.out];rfl,(ab.refl [] f).drew⟩
def QL:Sm:=⟨0,0,0,⟨#[]⟩⟩
def au(S:List Sm)(j:Nat):Sm:=S.getD j QL
theorem bM(S:List Sm)(j:Nat)(h:j<S.length):S[j]'h=au S j:=by
 unfold au;rw[QP,QO h];rfl
def pF(T:List Tk)(S:List Sm)(key x:ByteArray)(n:Nat)(act:Bool)(j:Nat):Bool:=((au S j).k.toList==key.toList)&&(aJ (bu T (au S j).h) x&&(aV S j n || !act))
def jq(T:List Tk)(S:List Sm)(key x:ByteArray)(n:Nat)(act:Bool):Bool:=(List.range n).any (pF T S key x n act)
theorem dU{p:Nat->Bool}(h:∀j,j<x->p j=false)(a:p x=false):∀j,j<x+1->p j=false:=fun j b=>by
 by_cases e:j=x
 ·rw[e];exact a
 ·exact h j (by omega)
theorem oo(c:Bool)(T:List Tk)(r:Option Addr)(K:Nat)(S:List Sm)(G:Option Addr)(U:Nat)(w:World)(X:fz w k T r K S G U)(Z:l<=S.length)(hS:S.length<=100000)(hT:T.length<=100000)(hE:∀j,j<l->((au S j).k.toList==H.toList)=true->cU T (au S j).h) :
  Calls prog 212 #[.pointer (some ⟨k,0,none⟩),.string H,.string n,.int .i64 l,.bool c] w fun e C=>e=.returned (.bool (jq T S H n l c))/\ab [] w C:=by
 have N:=hI X;clear X;go_enter func212,ntmps212;go_wp2
 go_loopg [11] l (fun g i wr=>∃b:Nat,b<=l/\g=l-b/\i=.int .i64 b/\Hid (∀j,j<b->pF T S H n l c j=false)/\Hid (ab [] w wr))
 case atStart=>exact⟨0,by omega,rfl,rfl,(fun j hj=>by omega),ab.refl _ _⟩
 case round =>
  obtain⟨b,hk,hg,rfl,E,A⟩:=hrel
  by_cases t:b<l
  ·have p:b<S.length:=by omega
   have z:=hI (fz.Va N.out A.out);obtain⟨-,c1,hb⟩:=z.out.cells;obtain⟨gs,rfl,af,-,-,-,q3⟩:=z.out.s.2 b S[b] (QO p);have ai:(b:Int)<(l:Int):=by omega
   have V:(b:Int)<(S.length:Int):=by omega
   have u:Hid (pF T S H n l c b=((S[b].k.toList==H.toList)&&(aJ (bu T S[b].h) n&&(aV S b l || !c)))):=by show _=_;unfold pF;rw[bM S b p]
   have y:Hid ((S[b].k.toList==H.toList)=true->cU T S[b].h):=by have:=hE b t;rw[<-bM S b p]at this;exact this
   have R:Hid ((S[b].k.toList==H.toList)=true->∀f,ab [] w f->Calls prog 72 #[.pointer (some ⟨k,0,none⟩),.int .i64 b] f fun e C=>∃J,e=.returned (.slice J.ao (bu T S[b].h).length J.cap)/\vi f C J (bu T S[b].h)):=fun h f Q=>kC k b T r K S _ U f (fz.Va N.out Q) p hT (y.out h)
   have ag:=ke T S[b].h;have D:Hid (∀f,ab [] w f->Calls prog 92 #[.pointer (some ⟨k,0,none⟩),.int .i64 b,.int .i64 l] f fun e C=>e=.returned (.bool (aV S b l))/\C=f):=fun f Q=>lj k b l T r K S _ U f (fz.Va N.out Q) (by omega) Z hS
   clear y;generalize bu T S[b].h=B at *;generalize S[b].k=sk at *;obtain⟨I,O⟩:∃I,Hid (aV S b l=I):=⟨_,rfl⟩
   rw[O.out]at u D
   cases v:(sk.toList==H.toList)
   ·have m:=hI (dU E.out (by rw[u.out,v];rfl))
    go_wp2
    go_roundg (l-(b+1))
    case measure=>omega
    case rel=>exact⟨b+1,by omega,rfl,by go_num,m,A⟩
   ·have L:=hI (R.out v)
    go_upto_region 6 with (go_at_call 72;refine(L.out _ (by exact A.out)).mono ?_;rintro e Y ⟨W,rfl,F⟩)
    have ad:=hI F;have o:=hI (A.out.trans F.kept);have d:=hI (j9 B W.ao W.cap n Y F.own.srcX (by omega));clear F c1 q3;obtain⟨P,M⟩:∃P,Hid (aJ B n=P):=⟨_,rfl⟩
    rw[M.out]at d u
    cases P
    ·have m:=hI (dU E.out (by rw[u.out,v];rfl))
     go_wp2_with (go_at_call 93;refine QT d.out ?_;rintro e x ⟨rfl,a⟩;rw[a];clear a)
     go_roundg (l-(b+1))
     case measure=>omega
     case rel=>exact⟨b+1,by omega,rfl,by go_num,m,o⟩
    ·have q:=hI (D.out Y o.out)
     cases I
     ·cases c
      ·have m:Hid (jq T S H n l false=true):=mY b t (by rw[u.out,v];rfl)
       go_wp2_with (first | (go_at_call 93;refine QT d.out ?_;rintro e x ⟨rfl,a⟩;rw[a];clear a) | (go_at_call 92;refine QT q.out ?_;rintro e x ⟨rfl,a⟩;rw[a];clear a));go_ret;exact⟨aD m.out.symm,o.out⟩
      ·have m:=hI (dU E.out (by rw[u.out,v];rfl))
       go_wp2_with (first | (go_at_call 93;refine QT d.out ?_;rintro e x ⟨rfl,a⟩;rw[a];clear a) | (go_at_call 92;refine QT q.out ?_;rintro e x ⟨rfl,a⟩;rw[a];clear a))
       go_roundg (l-(b+1))
       case measure=>omega
       case rel=>exact⟨b+1,by omega,rfl,by go_num,m,o⟩
     ·have m:Hid (jq T S H n l c=true):=mY b t (by rw[u.out,v];simp)
      go_wp2_with (first | (go_at_call 93;refine QT d.out ?_;rintro e x ⟨rfl,a⟩;rw[a];clear a) | (go_at_call 92;refine QT q.out ?_;rintro e x ⟨rfl,a⟩;rw[a];clear a));go_ret;exact⟨aD m.out.symm,o.out⟩
  ·have m:Hid (jq T S H n l c=false):=vG (fun j hj=>E.out j (by omega))
   go_wp2;go_ret;exact⟨aD m.out.symm,A.out⟩
def vh(T:List Tk)(S:List Sm)(n:Nat)(key:List UInt8):Prop:=∀j,j<n->((au S j).k.toList==key)=true->cU T (au S j).h
theorem nQ:(⟨#[36,99]⟩:ByteArray).toList=[36,99]/\(⟨#[36,118]⟩:ByteArray).toList=[36,118]:=by decide +kernel
def eF(T:List Tk)(S:List Sm)(x:ByteArray)(n:Nat):Bool:=jq T S ⟨#[36,99]⟩ x n false
def kV(T:List Tk)(S:List Sm)(x:ByteArray)(n:Nat):Bool:=jq T S ⟨#[36,118]⟩ x n true
theorem tL(S:List Sm)(b:Option Addr)(d:Nat)(c:World)(g:fz c k w a T S b d)(j:l<=S.length)(i:S.length<=100000)(m:w.length<=100000)(f:vh w S l [36,99]) :
  Calls prog 172 #[.pointer (some ⟨k,0,none⟩),.string H,.int .i64 l] c fun e o=>e=.returned (.bool (eF w S H l))/\ab [] c o:=by
 have n:=hI (oo k l ⟨#[36,99]⟩ H false w a T S b d c g j i m (by rw[nQ.1];exact f));go_enter func172,ntmps172;go_wp2_with fail;refine QT n.out ?_;rintro e p ⟨rfl,h⟩;go_wp2;go_ret;exact⟨rfl,h⟩
theorem AG(S:List Sm)(b:Option Addr)(d:Nat)(c:World)(g:fz c k w a T S b d)(j:l<=S.length)(i:S.length<=100000)(m:w.length<=100000)(f:vh w S l [36,118]) :
  Calls prog 173 #[.pointer (some ⟨k,0,none⟩),.string H,.int .i64 l] c fun e o=>e=.returned (.bool (kV w S H l))/\ab [] c o:=by
 have n:=hI (oo k l ⟨#[36,118]⟩ H true w a T S b d c g j i m (by rw[nQ.2];exact f));go_enter func173,ntmps173;go_wp2_with fail;refine QT n.out ?_;rintro e p ⟨rfl,h⟩;go_wp2;go_ret;exact⟨rfl,h⟩
def qK(T:List Tk)(S:List Sm)(x:ByteArray)(j:Nat):Bool:=!((bG T (au S j)).toList == [])&&((bG T (au S j)).toList==x.toList)
def bE(T:List Tk)(S:List Sm)(x:ByteArray)(n:Nat):Int:=match (List.range n).find? (qK T S x) with
 | some j=>j
 | none=>-1
theorem Ad{S:List Sm}(b:z0<x)(h:qK y S D z0=true)(c:∀j,j<z0->qK y S D j=false):bE y S D x=z0:=by
 have e:(List.range x).find? (qK y S D)=some z0:=by
  rw[Si];exact⟨h,Q9.2 b,fun j a=>by rw[c j a];rfl⟩
 unfold bE;rw[e]
theorem Cg{S:List Sm}(b:∀j,j<x->qK y S D j=false):bE y S D x=-1:=by
 have e:(List.range x).find? (qK y S D)=none:=by
  rw[Sj];intro j a;rw[b j (Q9.1 a)];simp
 unfold bE;rw[e]
theorem oB(S:List Sm)(m:Option Addr)(z:Nat)(q:World)(x:fz q k w a T S m z)(G:l<=S.length)(I:S.length<=100000)(A:∀j,j<l->(au S j).a<w.length) :
  Calls prog 171 #[.pointer (some ⟨k,0,none⟩),.string H,.int .i64 l] q fun e C=>e=.returned (.int .i64 (bE w S H l))/\ab [] q C:=by
 have B:=hI x;clear x;go_enter func171,ntmps171;go_wp2
 go_loopg [7] l (fun g i wr=>∃b:Nat,b<=l/\g=l-b/\i=.int .i64 b/\Hid (∀j,j<b->qK w S H j=false)/\Hid (ab [] q wr))
 case atStart=>exact⟨0,by omega,rfl,rfl,(fun j D=>by omega),ab.refl _ _⟩
 case round =>
  obtain⟨b,F,J,rfl,r,p⟩:=hrel
  by_cases o:b<l
  ·have d:b<S.length:=by omega
   have E:(b:Int)<(l:Int):=by omega
   have s:Hid (qK w S H b=(!((bG w S[b]).toList == [])&&((bG w S[b]).toList==H.toList))):=by show _=_;unfold qK;rw[bM S b d]
   have f:=hI (nP k b w a T S m z wr (fz.Va B.out p.out) d (by rw[bM S b d];exact A b o));generalize bG w S[b]=v at *
   cases t:(v.toList == [])
   ·cases u:(v.toList==H.toList)
    ·have h:=hI (dU r.out (by rw[s.out,u];simp))
     go_wp2_with (go_at_call 87;refine QT f.out ?_;rintro e y ⟨rfl,n⟩;have c:=hI (p.out.trans n))
     go_roundg (l-(b+1))
     case measure=>omega
     case rel=>exact⟨b+1,by omega,rfl,by go_num,h,c⟩
    ·have h:Hid (bE w S H l=b):=Ad o (by rw[s.out,t,u];rfl) r.out
     go_wp2_with (go_at_call 87;refine QT f.out ?_;rintro e y ⟨rfl,n⟩;have c:=hI (p.out.trans n));go_ret;exact⟨QM h.out.symm,c.out⟩
   ·have h:=hI (dU r.out (by rw[s.out,t];rfl))
    go_wp2_with (go_at_call 87;refine QT f.out ?_;rintro e y ⟨rfl,n⟩;have c:=hI (p.out.trans n))
    go_roundg (l-(b+1))
    case measure=>omega
    case rel=>exact⟨b+1,by omega,rfl,by go_num,h,c⟩
  ·have h:Hid (bE w S H l=-1):=Cg (fun j D=>r.out j (by omega))
   go_wp2;go_ret;exact⟨QM h.out.symm,p.out⟩
structure il(T:List Tk)(S:List Sm)(n:Nat):Prop where
 m:n<=S.length
 s:S.length<=100000
 t:T.length<=100000
 c:vh T S n [36,99]
 v:vh T S n [36,118]
 a:∀j,j<n->(au S j).a<T.length
def jC(T:List Tk)(S:List Sm)(x:ByteArray)(n:Nat):Bool:=decide (0<=bE T S x n)||(eF T S x n||jq T S ⟨#[36,118]⟩ x n false)
theorem xp(S:List Sm)(f:Option Addr)(n:Nat)(g:World)(j:fz g k w a T S f n)(d:il w S l) :
  Calls prog 170 #[.pointer (some ⟨k,0,none⟩),.string H,.int .i64 l] g fun e h=>e=.returned (.bool (jC w S H l))/\ab [] g h:=by
 have E:=hI (oB k l H w a T S f n g j d.m d.s d.a);have x:Hid (∀b,ab [] g b->Calls prog 172 #[.pointer (some ⟨k,0,none⟩),.string H,.int .i64 l] b fun e h=>e=.returned (.bool (eF w S H l))/\ab [] b h):=fun b p=>tL k l H w a T S f n b (j.Va p) d.m d.s d.t d.c
 have q:Hid (∀b,ab [] g b->Calls prog 212 #[.pointer (some ⟨k,0,none⟩),.string ⟨#[36,118]⟩,.string H,.int .i64 l,.bool false] b fun e h=>e=.returned (.bool (jq w S ⟨#[36,118]⟩ H l false))/\ab [] b h):=fun b p=>oo k l ⟨#[36,118]⟩ H false w a T S f n b (j.Va p) d.m d.s d.t (by rw[nQ.2];exact d.v)
 have r:Hid (jC w S H l=(decide (0<=bE w S H l)||(eF w S H l||jq w S ⟨#[36,118]⟩ H l false))):=rfl;generalize jC w S H l=R at *;generalize bE w S H l=A at *;generalize eF w S H l=c at *;generalize jq w S ⟨#[36,118]⟩ H l false=v at *;clear j;go_enter func170,ntmps170
 go_upto_region 2 with (go_at_call 171;refine QT E.out ?_;rintro e B ⟨rfl,o⟩)
 have x:=hI (x.out B o)
 go_upto_region 3 with (go_at_call 172;refine QT x.out ?_;rintro e D ⟨rfl,z⟩)
 have q:=hI (q.out D (o.trans z))
 go_upto_region 4 with (go_at_call 212;refine QT q.out ?_;rintro e F ⟨rfl,C⟩)
 have u:=(show Hid _ from(o.trans z).trans C)
 by_cases y:0<=A
 ·have i:Hid (R=true):=by show _=_;rw[r.out];simp[y]
  go_wp2;go_ret;exact⟨aD i.out.symm,u.out⟩
 ·cases c
  ·have i:Hid (R=v):=by show _=_;rw[r.out];simp[y]
   go_wp2;go_ret;exact⟨aD i.out.symm,u.out⟩
  ·have i:Hid (R=true):=by show _=_;rw[r.out];simp
   go_wp2;go_ret;exact⟨aD i.out.symm,u.out⟩
def jW(T:List Tk)(S:List Sm)(x:ByteArray)(n:Nat)(con:Bool)(before:List ByteArray):Int :=
 if aJ before x=true then 13 else if(con&&jC T S x n)=true then 13 else if(!con&&(decide (0<=bE T S x n)||(eF T S x n||kV T S x n)))=true then 13 else 0
theorem IS(g:Bool)(d:List ByteArray)(p:Option Addr)(J:Nat)(T:List Tk)(o:Option Addr)(y:Nat)(S:List Sm)(j:Option Addr)(B:Nat)(w:World)(z:fz w b T o y S j B)(i:il T S v)(N:ge w p d)(O:d.length<=1000000) :
  Calls prog 125 #[.pointer (some ⟨b,0,none⟩),.string n,.int .i64 v,.bool g,.slice p d.length J] w fun e u=>e=.returned (.int .i64 (jW T S n v g d))/\ab [] w u:=by
 have K:=hI (j9 d p J n w N (by omega));have L:=hI (xp b v n T o y S j B w z i);have F:Hid (∀f,ab [] w f->Calls prog 171 #[.pointer (some ⟨b,0,none⟩),.string n,.int .i64 v] f fun e u=>e=.returned (.int .i64 (bE T S n v))/\ab [] f u):=fun f k=>oB b v n T o y S j B f (z.Va k) i.m i.s i.a
 have C:Hid (∀f,ab [] w f->Calls prog 172 #[.pointer (some ⟨b,0,none⟩),.string n,.int .i64 v] f fun e u=>e=.returned (.bool (eF T S n v))/\ab [] f u):=fun f k=>tL b v n T o y S j B f (z.Va k) i.m i.s i.t i.c
 have D:Hid (∀f,ab [] w f->Calls prog 173 #[.pointer (some ⟨b,0,none⟩),.string n,.int .i64 v] f fun e u=>e=.returned (.bool (kV T S n v))/\ab [] f u):=fun f k=>AG b v n T o y S j B f (z.Va k) i.m i.s i.t i.v
 have q:Hid (jW T S n v g d=if aJ d n=true then 13 else if(g&&jC T S n v)=true then 13 else if(!g&&(decide (0<=bE T S n v)||(eF T S n v||kV T S n v)))=true then 13 else 0):=rfl;generalize jW T S n v g d=R at *;generalize aJ d n=M at *;generalize jC T S n v=U at *;generalize bE T S n v=l at *;generalize eF T S n v=c at *;generalize kV T S n v=W at *;clear z;go_enter func125,ntmps125
 go_upto_region 2 with (go_at_call 93;refine QT K.out ?_;rintro e X ⟨rfl,A⟩;rw[A];clear A)
 go_upto_region 3 with (go_at_call 170;refine QT L.out ?_;rintro e Q ⟨rfl,x⟩)
 have F:=hI (F.out Q x)
 go_upto_region 4 with (go_at_call 171;refine QT F.out ?_;rintro e V ⟨rfl,E⟩)
 have C:=hI (C.out V (x.trans E))
 go_upto_region 5 with (go_at_call 172;refine QT C.out ?_;rintro e P ⟨rfl,G⟩)
 have D:=hI (D.out P ((x.trans E).trans G))
 go_upto_region 6 with (go_at_call 173;refine QT D.out ?_;rintro e Y ⟨rfl,H⟩)
 have r:=(show Hid _ from((x.trans E).trans G).trans H);clear K L F C D x E G H
 cases M
 ·cases g
  ·by_cases I:0<=l
   ·have h:Hid (R=13):=by show _=_;rw[q.out];simp[I]
    go_wp2;go_ret;exact⟨QM h.out.symm,r.out⟩
   ·cases c
    ·cases W
     ·have h:Hid (R=0):=by show _=_;rw[q.out];simp[I]
      go_wp2;go_ret;exact⟨QM h.out.symm,r.out⟩
     ·have h:Hid (R=13):=by show _=_;rw[q.out];simp
      go_wp2;go_ret;exact⟨QM h.out.symm,r.out⟩
    ·have h:Hid (R=13):=by show _=_;rw[q.out];simp
     go_wp2;go_ret;exact⟨QM h.out.symm,r.out⟩
  ·cases U
   ·have h:Hid (R=0):=by show _=_;rw[q.out];simp
    go_wp2;go_ret;exact⟨QM h.out.symm,r.out⟩
   ·have h:Hid (R=13):=by show _=_;rw[q.out];simp
    go_wp2;go_ret;exact⟨QM h.out.symm,r.out⟩
 ·have h:Hid (R=13):=by show _=_;rw[q.out];simp
  go_wp2;go_ret;exact⟨QM h.out.symm,r.out⟩
def ip(key:ByteArray)(before:List ByteArray):Int :=
 if before.length=0 then 15 else if(((key.toList == [36,100])||(key.toList == [36,102]))&&decide (before.length<2))=true then 15 else if((key.toList == [36,112]) && !(aJ before ⟨#[36,61]⟩))=true then 23 else 0
theorem Bl(k:ge i a S)(p:S.length<=1000000) :
  Calls prog 124 #[.string H,.slice a S.length v] i fun e t=>e=.returned (.int .i64 (ip H S))/\t=i:=by
 have o:=hI (j9 S a v ⟨#[36,61]⟩ i k (by omega));have d:Hid (ip H S=if S.length=0 then 15 else if(((H.toList == [36,100])||(H.toList == [36,102]))&&decide (S.length<2))=true then 15 else if((H.toList == [36,112]) && !(aJ S ⟨#[36,61]⟩))=true then 23 else 0):=rfl;generalize ip H S=R at *;generalize aJ S ⟨#[36,61]⟩=l at *;generalize S.length=n at *;clear k
 by_cases c:n=0
 ·have s:Hid (R=15):=by show _=_;rw[d.out,QV c]
  subst c;go_enter func124,ntmps124;go_wp2_with (go_at_call 93;refine QT o.out ?_;rintro e q ⟨rfl,b⟩;rw[b];clear b);go_ret;exact⟨QM s.out.symm,rfl⟩
 ·rw[QS c]at d
  have r:((n:Int)==0)=false:=by simpa using c
  go_enter func124,ntmps124
  go_upto_region 3 with (go_at_call 93;refine QT o.out ?_;rintro e q ⟨rfl,b⟩;rw[b];clear b)
  by_cases m:n<2
  ·have f:(n:Int)<2:=by omega
   cases h:(H.toList == [36,100]) <;> cases j:(H.toList == [36,102]) <;> cases g:(H.toList == [36,112]) <;> cases l
   all_goals
    go_wp2;go_ret;exact⟨QM (by rw[d.out];simp[m,h,j,g]),rfl⟩
  ·have f:¬(n:Int)<2:=by omega
   cases h:(H.toList == [36,100]) <;> cases j:(H.toList == [36,102]) <;> cases g:(H.toList == [36,112]) <;> cases l
   all_goals
    go_wp2;go_ret;exact⟨QM (by rw[d.out];simp[m,h,j,g]),rfl⟩
theorem Ae(N:n.size<=1073741824) :
  Calls prog 169 #[.string n] i fun e H=>e=.returned (.bool (gG n))/\H=i:=by
 go_enter func169,ntmps169;go_wp2
 go_loopg [3] n.size (fun g b wr=>∃k:Nat,k<=n.size/\g=n.size-k/\b=.int .i64 k/\Hid (∀b,b<k->jA (aF n b)=true)/\wr=i)
 case atStart=>exact⟨0,by omega,by omega,rfl,fun b h=>by omega,rfl⟩
 case round =>
  obtain⟨k,L,M,rfl,d,rfl⟩:=hrel
  by_cases j:k<n.size
  ·have t:Hid (jA (n[k].toNat:Int)=false->gG n=false):=fun z=>DD k j (by rw[bP n k j];exact z)
   have s:Hid (jA (n[k].toNat:Int)=true->∀b,b<k+1->jA (aF n b)=true):=fun z b C=>by
    by_cases e:b=k
    ·subst e;rw[bP n b j];exact z
    ·exact d.out b (by omega)
   have J:(k:Int)<(n.size:Int):=by omega
   go_upto_region 5 with fail
   obtain⟨c,A⟩:∃c:Int,(n[k].toNat:Int)=c:=⟨_,rfl⟩
   have D:=hI A;clear A;rw[D.out]at t s ⊢
   go_cut [5] from 18 to 23 (fun F f=>F=.bool (decide (97<=c)&&decide (c<=122))/\f=wr)
   case first =>
    by_cases q:97<=c
    ·by_cases r:c<=122
     ·go_wp2_with fail
      go_meet
      case rel=>exact⟨by simp;omega,rfl⟩
     ·go_wp2_with fail
      go_meet
      case rel=>exact⟨by simp;omega,rfl⟩
    ·go_wp2_with fail
     go_meet
     case rel=>exact⟨by simp;omega,rfl⟩
   case rest =>
    obtain⟨rfl,a⟩:=hcut;subst a;obtain⟨v,o⟩:∃v,Hid ((decide (97<=c)&&decide (c<=122))=v):=⟨_,rfl⟩
    rw[o.out]
    go_upto_region 6 with fail
    go_cut [6] from 24 to 29 (fun E f=>E=.bool (decide (65<=c)&&decide (c<=90))/\f=wc)
    case first =>
     by_cases q:65<=c
     ·by_cases r:c<=90
      ·go_wp2_with fail
       go_meet
       case rel=>exact⟨by simp;omega,rfl⟩
      ·go_wp2_with fail
       go_meet
       case rel=>exact⟨by simp;omega,rfl⟩
     ·go_wp2_with fail
      go_meet
      case rel=>exact⟨by simp;omega,rfl⟩
    case rest =>
     obtain⟨rfl,a⟩:=hcut;subst a;obtain⟨u,l⟩:∃u,Hid ((decide (65<=c)&&decide (c<=90))=u):=⟨_,rfl⟩
     rw[l.out]
     go_upto_region 7 with fail
     go_cut [7] from 30 to 35 (fun G f=>G=.bool (decide (48<=c)&&decide (c<=57))/\f=wc)
     case first =>
      by_cases q:48<=c
      ·by_cases r:c<=57
       ·go_wp2_with fail
        go_meet
        case rel=>exact⟨by simp;omega,rfl⟩
       ·go_wp2_with fail
        go_meet
        case rel=>exact⟨by simp;omega,rfl⟩
      ·go_wp2_with fail
       go_meet
       case rel=>exact⟨by simp;omega,rfl⟩
     case rest =>
      obtain⟨rfl,a⟩:=hcut;subst a;obtain⟨x,m⟩:∃x,Hid ((decide (48<=c)&&decide (c<=57))=x):=⟨_,rfl⟩
      rw[m.out]
      go_upto_region 8 with fail
      go_cut [8] from 36 to 45 (fun I f=>I=.bool ((c==45)||(c==95)||(c==46))/\f=wc)
      case first =>
       cases q:(c==45)
       ·cases r:(c==95)
        ·go_wp2_with fail
         go_meet
         case rel=>exact⟨by rw[q,r];simp,rfl⟩
        ·go_wp2_with fail
         go_meet
         case rel=>exact⟨by rw[q,r];simp,rfl⟩
       ·go_wp2_with fail
        go_meet
        case rel=>exact⟨by rw[q];simp,rfl⟩
      case rest =>
       obtain⟨rfl,a⟩:=hcut;subst a;obtain⟨w,p⟩:∃w,Hid (((c==45)||(c==95)||(c==46))=w):=⟨_,rfl⟩
       rw[p.out];have B:Hid (jA c=(v||(u||(x||w)))):=by show _=_;rw[<-o.out,<-l.out,<-m.out,<-p.out];unfold jA;simp only[TE]
       clear o l m p
       cases v <;> cases u <;> cases x <;> cases w
       ·have y:=hI (t.out (by rw[B.out];rfl))
        go_wp2;go_ret;exact⟨aD y.out.symm,rfl⟩
       all_goals
        have y:=hI (s.out (by rw[B.out];rfl));go_wp2
        go_roundg (n.size-(k+1))
        case measure=>omega
        case rel=>exact⟨k+1,by omega,rfl,by go_num,y,rfl⟩
  ·have K:Hid (gG n=true):=zA (fun b C=>d.out b (by omega))
   go_wp2;go_ret;exact⟨aD K.out.symm,rfl⟩
def dw(T:List Tk)(S:List Sm)(x:ByteArray)(n:Nat):Int :=
 if((x.toList == [36,123])||((x.toList == [36,118])||(x.toList == [36,100])))=true then 0
 else if((x.toList == [36,125])&&(bb S n==0))=true then 9
 else if(x.toList == [36,125])=true then 0
 else if((x.toList == [36,99])&&decide (0<bb S n))=true then 10
 else if(x.toList == [36,99])=true then 0
 else if(aC x||aG x)=true then 11
 else if ii x ⟨#[36]⟩=true then 8
 else if gG x=false then 12
 else if jC T S x n=true then 13 else 0
theorem DZ(S:List Sm)(o:Option Addr)(u:Nat)(p:World)(r:fz p k w a T S o u)(t:il w S l)(J:H.size<=1073741824) :
  Calls prog 121 #[.pointer (some ⟨k,0,none⟩),.string H,.int .i64 l] p fun e I=>e=.returned (.int .i64 (dw w S H l))/\ab [] p I:=by
 have A:=hI (DQ k l w a T S o u p r t.m t.s);have B:=hI (xp k l H w a T S o u p r t)
 have f:Hid (dw w S H l=if((H.toList == [36,123])||((H.toList == [36,118])||(H.toList == [36,100])))=true then 0
  else if((H.toList == [36,125])&&(bb S l==0))=true then 9
  else if(H.toList == [36,125])=true then 0
  else if((H.toList == [36,99])&&decide (0<bb S l))=true then 10
  else if(H.toList == [36,99])=true then 0
  else if(aC H||aG H)=true then 11
  else if ii H ⟨#[36]⟩=true then 8
  else if gG H=false then 12
  else if jC w S H l=true then 13 else 0):=rfl
 generalize dw w S H l=R at *;generalize bb S l=x at *;generalize jC w S H l=G at *;clear r;go_enter func121,ntmps121
 go_upto_region 5 with (first | (go_at_call 168;refine QT A.out ?_;rintro e q ⟨rfl,b⟩;rw[b];clear b) | (go_at_call 120;refine(fF H _ _ (by omega) (by show 1<=_;omega)).mono ?_;rintro e q ⟨rfl,b⟩;rw[b];clear b) | (go_at_call 169;refine(Ae H _ J).mono ?_;rintro e q ⟨rfl,b⟩;rw[b];clear b) | (go_at_call 170;refine QT B.out ?_;rintro e K ⟨rfl,y⟩))
 go_upto_region 7 with (first | (go_at_call 122;refine(fT H _).mono ?_;rintro e q ⟨rfl,b⟩;rw[b];clear b) | (go_at_call 123;refine(lI H _).mono ?_;rintro e q ⟨rfl,b⟩;rw[b];clear b))
 have g:=hI y;generalize aC H=E at *;generalize aG H=D at *;generalize ii H ⟨#[36]⟩=F at *;generalize gG H=C at *;clear A B y
 cases d:(H.toList == [36,123])
 ·cases h:(H.toList == [36,118])
  ·cases i:(H.toList == [36,100])
   ·cases j:(H.toList == [36,125])
    ·cases n:(H.toList == [36,99])
     ·cases E
      ·cases D
       ·cases F
        ·cases C
         ·have c:Hid (R=12):=by show _=_;rw[f.out];simp[d,h,i,j,n]
          go_wp2;go_ret;exact⟨QM c.out.symm,g.out⟩
         ·cases G
          ·have c:Hid (R=0):=by show _=_;rw[f.out];simp[d,h,i,j,n]
           go_wp2;go_ret;exact⟨QM c.out.symm,g.out⟩
          ·have c:Hid (R=13):=by show _=_;rw[f.out];simp[d,h,i,j,n]
           go_wp2;go_ret;exact⟨QM c.out.symm,g.out⟩
        ·have c:Hid (R=8):=by show _=_;rw[f.out];simp[d,h,i,j,n]
         go_wp2;go_ret;exact⟨QM c.out.symm,g.out⟩
       ·have c:Hid (R=11):=by show _=_;rw[f.out];simp[d,h,i,j,n]
        go_wp2;go_ret;exact⟨QM c.out.symm,g.out⟩
      ·have c:Hid (R=11):=by show _=_;rw[f.out];simp[d,h,i,j,n]
       go_wp2;go_ret;exact⟨QM c.out.symm,g.out⟩
     ·by_cases v:0<x
      ·have c:Hid (R=10):=by show _=_;rw[f.out];simp[d,h,i,j,n,v]
       go_wp2;go_ret;exact⟨QM c.out.symm,g.out⟩
      ·have c:Hid (R=0):=by show _=_;rw[f.out];simp[d,h,i,j,n,v]
       go_wp2;go_ret;exact⟨QM c.out.symm,g.out⟩
    ·cases z:(x==0)
     ·have c:Hid (R=0):=by show _=_;rw[f.out];simp[d,h,i,j,z]
      go_wp2;go_ret;exact⟨QM c.out.symm,g.out⟩
     ·have c:Hid (R=9):=by show _=_;rw[f.out];simp[d,h,i,j,z]
      go_wp2;go_ret;exact⟨QM c.out.symm,g.out⟩
   ·have c:Hid (R=0):=by show _=_;rw[f.out];simp[d,h,i]
    go_wp2;go_ret;exact⟨QM c.out.symm,g.out⟩
  ·have c:Hid (R=0):=by show _=_;rw[f.out];simp[d,h]
   go_wp2;go_ret;exact⟨QM c.out.symm,g.out⟩
 ·have c:Hid (R=0):=by show _=_;rw[f.out];simp[d]
  go_wp2;go_ret;exact⟨QM c.out.symm,g.out⟩
end Go.Proofs.YtpddjjabfbfifaaGreat
