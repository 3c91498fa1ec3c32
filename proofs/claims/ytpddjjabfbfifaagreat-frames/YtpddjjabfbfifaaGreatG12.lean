import Derived.Deep.RegionHeld3
import Derived.Deep.CutRange
import Derived.Test.YtpddjjabfbfifaaGreatG11
namespace Go.Proofs.YtpddjjabfbfifaaGreat
open Go.RowKit Tryz
set_option maxRecDepth 100000
set_option maxHeartbeats 40000000
variable{k M zt:World}{v z0 z5:Nat}{L:Fs}{N:List Bool}{z4 z6:Hd}{d I:List Tk}{z7:Nat->List Bool->List Tk->List Tk×List Bool}{o:Tk}{D:ByteArray}{g y0:Option Addr}{zb:List ByteArray}(a:Nat)(f:Fs)(l:Nat)(H:ByteArray)(y:List ByteArray)(b:Nat)(w:List Tk)(i:Option Addr)(x:Nat)(n:ByteArray)(T:World)(S:Nat)
def Kr(w:World)(gs:Nat)(sn:List Bool)(h:Hd)(out:List Tk)(R:List Tk×List Bool)(e:Ending)(w':World):Prop :=
 ∃h',e=.returned (.slice h'.ao R.1.length h'.cap)/\aw w' h' (ir R.1)/\jy w' gs R.2/\uY w w' gs h h'/\R.2.length=sn.length/\R.1.length+2000*aQ R.2<=out.length+2000*aQ sn/\aQ R.2<=aQ sn
structure Kh(w wr:World)(gf cap:Nat)(fs:Fs)(gs:Nat)(sn:List Bool)(h h':Hd)(O:List Tk)(gT capT:Nat)(T:List Tk):Prop where
 i:rg wr gf cap fs gs sn h' O
 r:uY w wr gs h h'
 t:aw wr ⟨some ⟨gT,0,none⟩,capT⟩ (ir T)
 b1:h'.blk≠some gT
 b2:gT≠gs
section
variable {w wr wr':World} {gf cap:Nat} {fs:Fs} {gs:Nat} {sn sn':List Bool} {h h' h'':Hd} {O O':List Tk} {gT capT:Nat} {T:List Tk}
theorem Kh.turn(a:Kh w wr gf cap fs gs sn h h' O gT capT T)(r:uY wr wr' gs h' h'')(o:aw wr' h'' (ir O'))(s:jy wr' gs sn'):Kh w wr' gf cap fs gs sn' h h'' O' gT capT T:=by
 have f:gT<wr.heap.size:=a.t.lt rfl;refine⟨a.i.turn r o s,a.r.trans r,a.t.Vg (fun q c=>r.kept.block q (a.t.lt c) (fun b=>?_)),?_,a.b2⟩
 ·have e:q=gT:=by cases c;rfl
  subst e
  rcases Rj.1 b with e | b
  ·exact a.b2 e
  ·exact a.b1 (aN b)
 ·rcases r.blk with e | ⟨g,e,d⟩
  ·rw[e];exact a.b1
  ·rw[e];intro q;cases q;omega
theorem Kh.Vl(a:Kh w wr gf cap fs gs sn h h' O gT capT T)(g:bt wr wr' h' h'')(o:aw wr' h'' (ir O')):Kh w wr' gf cap fs gs sn h h'' O' gT capT T :=
 a.turn (uY.of g) o (a.i.seen.kept g.kept (fun b=>a.i.a1 (aN b)))
theorem Kh.Vb(a:Kh w wr gf cap fs gs sn h h' O gT capT T)(k:ab [] wr wr'):Kh w wr' gf cap fs gs sn h h' O gT capT T :=
 a.Vl (bt.Vb k) (a.i.own.Vb k)
end
theorem oM{b:List Bool}{l c:Nat}{T:List Tk}{R:List Tk×List Bool}(a:Kh k M v z0 L z5 b z4 z6 I l c T)(e:R=(I,b))(f:b.length=N.length)(g:I.length+2000*aQ b<=d.length+2000*aQ N)(h:aQ b<=aQ N){m:Nat}(j:m=I.length):Kr k z5 N z4 d R (.returned (.slice z6.ao m z6.cap)) M:=by
 subst e;subst j;exact⟨z6,rfl,a.i.own,a.i.seen,a.r,f,g,h⟩
theorem yZ(h:((o.rule==0)&&(o.s.toList == []))=true):cv z7 L (o :: d) N I=((if dg I=true then I else I++[qO o 7]),N):=by
 rw[cv.eq_def];simp only;rw[QW h]
theorem E1(h:((o.rule==0)&&(o.s.toList == []))=false)(a:(o.s.toList == [36,91])=false):cv z7 L (o :: d) N I=cv z7 L d N (I++[o]):=by
 rw[cv.eq_def];simp only;rw[QT (by rw[h];simp),QW a]
theorem Jr(h:((o.rule==0)&&(o.s.toList == []))=false)(a:(o.s.toList == [36,91])=true)(b:dg I=false):cv z7 L (o :: d) N I=(I++[qO o 4],N):=by
 rw[cv.eq_def];simp only;rw[QT (by rw[h];simp),QT (by rw[a];simp),QW b]
theorem CP{a:Tk}(h:((o.rule==0)&&(o.s.toList == []))=false)(c:(o.s.toList == [36,91])=true)(f:dg I=true)(e:(dm L a.s a.rule==0)=false):cv z7 L (o :: a :: d) N I=(I++[qO a (dm L a.s a.rule)],N):=by
 rw[cv.eq_def];simp only;rw[QT (by rw[h];simp),QT (by rw[c];simp),QT (by rw[f];simp)]
 cases d with
 | nil=>rfl
 | cons b d=>simp only;rw[QW e]
theorem Jq{rec:Nat->List Bool->List Tk->List Tk×List Bool}{fs:Fs}{t a b:Tk}{r:List Tk}{sn:List Bool}(h:((t.rule==0)&&(t.s.toList == []))=false)(c:(t.s.toList == [36,91])=true)(f:dg d=true)(e:(dm fs a.s a.rule==0)=true):cv rec fs (t :: a :: b :: r) sn d =
  if(dI b.s b.rule==0)=false then(d++[qO b (dI b.s b.rule)],sn)
  else if sn.getD (bF fs a.s).toNat true=true then cv rec fs r sn d
  else if eu (rec (bF fs a.s).toNat sn d).1=true then rec (bF fs a.s).toNat sn d
  else cv rec fs r (rec (bF fs a.s).toNat sn d).2 (rec (bF fs a.s).toNat sn d).1:=by
 rw[cv.eq_def];simp only;rw[QT (by rw[h];simp),QT (by rw[c];simp),QT (by rw[f];simp),QT (by rw[e];simp)]
theorem BC(a:Fs)(i:Nat):du n a i<(i:Int)+a.length∨a.length=0:=by
 induction a generalizing i with
 | nil=>exact QV rfl
 | cons f r b =>
  left
  rw[du]
  split
  ·simp;omega
  ·rcases b (i+1) with h | h
   ·simp at h ⊢;omega
   ·rw[Rk h,du];simp;omega
theorem No(h:0<=bF L D):bF L D<L.length:=by
 unfold bF at h ⊢
 rcases BC D L 0 with e | e
 ·simpa using e
 ·rw[Rk e,du]at h;omega
theorem EG{r:Int}(h:(dm L D r==0)=true):(D.toList == [])=false/\0<=bF L D:=by
 unfold dm at h
 cases a:(r==0)
 ·rw[QW a,a]at h;cases h
 ·rw[QT (by rw[a];simp)]at h
  cases b:(D.toList == [])
  ·rw[QT (by rw[b];simp)]at h
   refine⟨rfl,?_⟩
   split at h
   ·cases h
   ·split at h
    ·cases h
    ·omega
  ·rw[QW b]at h;cases h
theorem Js(c8:f.length<=4)(ck:∀k,(ak f k).size<=1024)(n:Nat):∀(k:Nat) (m:List Bool) (d:List Tk) (h:Hd) (N I:Nat) (w:World),aQ m<=n->m.length=f.length->f.length<=I->k<f.length->m[k]?=some false->d.length+2000*aQ m<=100000->rg w x S f N m h d ->
  Calls prog 82 #[.slice (some ⟨x,0,none⟩) f.length S,.int .i64 k,.slice (some ⟨N,0,none⟩) f.length I,.slice h.ao d.length h.cap] w fun e w'=>Kr w N m h d (dQ f n k m d) e w':=by
 induction n with
 | zero=>intro k m d h N I w hn bz b3 hk hs;have:=Fx m k hs;omega
 | succ n ih =>
  intro k m d h N I w hn bz b3 hk hs hb E;have cz:=hI ih;clear ih;have ds:(k:Int)<(f.length:Int):=by omega
  have s0:=E.seen.cell k false hs;have s1:=am E.seen k;have dT:=ae E.seen;have cV:=E.src.1;have k1:ab [N] w (w.setCell ⟨N,k,none⟩ (.bool true)):=(ab.refl [N] w).setCell (Q1 (by simp)) _;obtain⟨w1,ai⟩:∃w1,Hid (w.setCell ⟨N,k,none⟩ (.bool true)=w1):=⟨_,rfl⟩
  rw[ai.out]at k1;have R1:uY w w1 N h h:=⟨k1.mono (fun d5 hx _=>by simp at hx;simp[hx]),Q1 rfl⟩;have a5:rg w1 x S f N (m.set k true) h d:=E.turn R1 (E.own.Vg (fun q hq=>k1.block q (E.own.lt hq) (by simp;intro e;exact E.a1 (by rw[<-e];exact hq)))) (by rw[<-ai.out];exact E.seen.set k);have hu:=lC m k hs;have cp:(m.set k true).length=f.length:=by rw[Rv];exact bz
  obtain⟨dz,e1,cL,c0,c1⟩:=a5.src.2 k hk
  cases e1
  have dv:=ck k;have b6:=hI (Df f k);have ap:=hI (MM f k);have be:=hI (J1 f k);have HT:Hid (qV f k=bQ false (ij (aE f k) (ak f k))):=rfl;have HR:Hid (dQ f (n+1) k m d=cv (dQ f n) f (qV f k) (m.set k true) d):=rfl;have bo:=hI (xy (aE f k) (ak f k));have cc:=zv (aE f k) (ak f k);obtain⟨R,cf⟩:∃R,Hid (dQ f (n+1) k m d=R):=⟨_,rfl⟩
  rw[cf.out]at HR ⊢;have aT:=hI a5;have bg:=hI R1;clear a5 R1 k1 E;go_enter func82,ntmps82
  go_upto_region 2 with fail
  rw[ai.out]
  go_upto_region 3 with (go_at_call 115;refine(FJ _ _ _ (by omega)).mono ?_;rintro e w2 ⟨hW,rfl,oW,kW,fW⟩)
  have K:=hI (G1 (ij (aE f k) (ak f k)) hW.ao hW.cap w2 (by omega) oW.src (fun t ht=>by have:=bo.out t ht;omega));rw[<-HT.out]at K
  go_upto_region 4 with (go_at_call 116;refine(QU K.out ?_);rintro e w3 ⟨hT,rfl,bT⟩)
  obtain⟨T,cP⟩:∃T,Hid (qV f k=T):=⟨_,rfl⟩
  rw[cP.out]at b6 ap be HR bT ⊢
  have ch:0<T.length:=by
   obtain⟨u,e1,-⟩:=ap.out
   cases T with
   | nil=>cases e1
   | cons _ _=>simp
  obtain⟨gT,eT,dk,b0⟩:=qq bT.own ch;obtain⟨c5,Y⟩:=hT;simp only at eT;subst eT;have b0:T.length<=Y:=b0;have dt:T.length<=1026:=by have:=b6.out;omega
  have co:Hid (Kh w w3 x S f N (m.set k true) h h d gT Y T):=by
   have f1:=bT.far gT rfl;have f2:=kW.size;have f3:=ae aT.out.seen;refine⟨(aT.out.Vb kW).Vb bT.kept,bg.out.trans (uY.of (bt.Vb (kW.trans bT.kept))),bT.own,fun e=>?_,by omega⟩;have:=aT.out.own.lt e;omega
  obtain⟨U1,ba⟩:∃U1,Hid (aQ (m.set k true)=U1):=⟨_,rfl⟩
  obtain⟨U,L⟩:∃U,Hid (aQ m=U):=⟨_,rfl⟩
  rw[ba.out]at hu;rw[L.out]at hu hn hb;clear c0 c1 s0 s1 cL aT bg ai oW kW fW K bT bo HT cc;go_wp2
  go_loopg [3,11] T.length (fun g o i wr=>∃(q:Nat) (V:Hd) (O:List Tk) (c:List Bool),q<=T.length/\g=T.length-q/\o=.slice V.ao O.length V.cap/\i=.int .i64 q/\(O.length+2000*aQ c<=d.length+q+2000*U1/\aQ c<=U1/\c.length=f.length)/\Hid (cv (dQ f n) f (T.drop q) c O=R)/\Hid (Kh w wr x S f N c h V O gT Y T))
  case atStart=>exact⟨0,h,d,m.set k true,by omega,rfl,rfl,rfl,⟨by rw[ba.out];omega,by rw[ba.out];omega,cp⟩,by show _=_;rw[U0];exact HR.out.symm,co⟩
  case round =>
   obtain⟨q,V,O,c,hq,hg,rfl,rfl,⟨z1,z2,z3⟩,HE,M⟩:=hrel;obtain⟨U2,j⟩:∃U2,Hid (aQ c=U2):=⟨_,rfl⟩
   rw[j.out]at z1 z2
   by_cases a6:q<T.length
   ·have db:(q:Int)<(T.length:Int):=by omega
    obtain⟨c0,c1,c2,c3,c4⟩:=pZ M.out.t rfl q T[q] (QP a6);have HD:=hI (Rf a6);have bv:Hid ((T[q].s.toList == [])=false->q+1<T.length):=fun he=>uW.next ap.out q _ (QP a6) he
    rw[HD.out]at HE;obtain⟨bw,Q⟩:∃bw,Hid (dg O=bw):=⟨_,rfl⟩
    have a2:=hI (zJ O V.ao V.cap wr (by omega) M.out.i.own.src);rw[Q.out]at a2;have dl:gT<wr.heap.size:=M.out.t.lt rfl;generalize T[q]=t at *;obtain⟨J,P,tf,tl,tc⟩:=t;simp only at c0 c1 c2 c3 c4 bv
    go_upto_region 8 with (go_at_call 117;refine QU a2.out ?_;rintro e w4 ⟨rfl,b2⟩;rw[b2];clear b2)
    clear a2
    go_cut [47] from 34 to 47 (fun cj wd=>cj=.bool ((P==0)&&(J.toList == []))/\wd=wr)
    case first =>
     cases hr:(P==0)
     ·go_wp2_with fail
      go_meet
      case rel=>exact⟨by rw[hr];rfl,rfl⟩
     ·cases he:(J.toList == [])
      ·go_wp2_with fail
       go_meet
       case rel=>exact⟨by rw[hr,he];rfl,rfl⟩
      ·go_wp2_with fail
       go_meet
       case rel=>exact⟨by rw[hr,he];rfl,rfl⟩
    case rest =>
     obtain⟨rfl,cu⟩:=hcut;subst cu
     cases hA:((P==0)&&(J.toList == []))
     ·cases hi:(J.toList == [36,91])
      ·have F:Hid (cv (dQ f n) f (T.drop (q+1)) c (O++[⟨J,P,tf,tl,tc⟩])=R):=by show _=_;rw[<-HE.out];exact(E1 hA hi).symm
       go_wp2_with (at_builtin;refine bY _ rfl (.tmp 66) (.tmp 71) rfl V O ⟨J,P,tf,tl,tc⟩ rfl M.out.i.own (by omega) rfl ?_;intro h5 C v y;have HM:=hI (M.out.Vl y v);clear v y)
       go_roundg (T.length-(q+1))
       case measure=>omega
       case rel=>exact⟨q+1,h5,O++[⟨J,P,tf,tl,tc⟩],c,by omega,rfl,by simp,by go_num,⟨by rw[j.out];simp;omega,by rw[j.out];exact z2,z3⟩,F,HM⟩
      ·cases bw
       ·have F:Hid (R=(O++[qO ⟨J,P,tf,tl,tc⟩ 4],c)):=by show _=_;rw[<-HE.out];exact Jr hA hi Q.out
        have A:(O++[qO ⟨J,P,tf,tl,tc⟩ 4]).length+2000*aQ c<=d.length+2000*aQ m:=by rw[j.out,L.out];simp;omega
        have l:aQ c<=aQ m:=by rw[j.out,L.out];omega
        go_wp2_with (at_builtin;refine bY _ rfl (.tmp 75) (.tmp 82) rfl V O (qO ⟨J,P,tf,tl,tc⟩ 4) rfl M.out.i.own (by omega) rfl ?_;intro h5 C v y;have HM:=hI (M.out.Vl y v);clear v y);go_ret;exact oM HM.out F.out (by omega) A l (by simp)
       ·have he:(J.toList == [])=false:=by
         have e:J.toList=[36,91]:=by simpa using hi
         rw[e];rfl
        have X:=bv.out he;obtain⟨d0,d1,d2,d3,d4⟩:=pZ M.out.t rfl (q+1) T[q+1] (QP X);have cF:=hI (Rf X);rw[cF.out]at HE;have ct:=be.out T[q+1] (Rb X);have a0:Hid ((T[q+1].s.toList == [])=false->q+1+1<T.length):=fun he=>uW.next ap.out (q+1) _ (QP X) he
        have cq:Hid (T[q+1]?=some T[q+1]):=QP X;generalize T[q+1]=a at *;obtain⟨Z,ar,af,al,ac⟩:=a;simp only at d0 d1 d2 d3 d4 a0 ct;have cS:(q:Int)+1<(T.length:Int):=by omega
        obtain⟨r1,az⟩:∃r1,Hid (dm f Z ar=r1):=⟨_,rfl⟩
        have a3:=hI (EE f (some ⟨x,0,none⟩) S Z af ar al ac _ (by omega) M.out.i.src (by omega));rw[az.out]at a3
        go_upto_region 17 with (go_at_call 118;refine QU a3.out ?_;rintro e C ⟨rfl,k5⟩)
        obtain⟨W5,an⟩:∃W5,Hid (C.alloc (.cells #[.string ⟨#[]⟩,.int .i64 r1,.string af,.int .i64 al,.int .i64 ac] 138)=W5):=⟨_,rfl⟩
        have H:W5.heap[C.heap.size]?=some (.cells #[.string ⟨#[]⟩,.int .i64 r1,.string af,.int .i64 al,.int .i64 ac] 138 (0,0)):=by rw[<-an.out];exact QS _ _
        have K5:=k5.trans (show ab [] C W5 by rw[<-an.out];exact(ab.refl [] _).alloc _);have bd:=hI (M.out.Vb K5);have c6:=ae H;have ag:=k5.size;rw[an.out];clear c0 c1 c2 c3 c4 d0 d1 d2 d3 d4 an a3 k5;have p0:W5.cell? ⟨C.heap.size,0,none⟩=some (.string ⟨#[]⟩):=by rw[aa H];rfl
        have p1:W5.cell? ⟨C.heap.size,1,none⟩=some (.int .i64 r1):=by rw[aa H];rfl
        have p2:W5.cell? ⟨C.heap.size,2,none⟩=some (.string af):=by rw[aa H];rfl
        have p3:W5.cell? ⟨C.heap.size,3,none⟩=some (.int .i64 al):=by rw[aa H];rfl
        have p4:W5.cell? ⟨C.heap.size,4,none⟩=some (.int .i64 ac):=by rw[aa H];rfl
        cases h1:(r1==0)
        ·have F:Hid (R=(O++[qO ⟨Z,ar,af,al,ac⟩ r1],c)):=by show _=_;rw[<-HE.out,CP hA hi Q.out (by show(dm f Z ar==0)=false;rw[az.out];exact h1)];simp only;rw[az.out]
         have A:(O++[qO ⟨Z,ar,af,al,ac⟩ r1]).length+2000*aQ c<=d.length+2000*aQ m:=by rw[j.out,L.out];simp;omega
         have l:aQ c<=aQ m:=by rw[j.out,L.out];omega
         go_wp2_with (at_builtin;refine bY _ rfl (.tmp 103) (.tmp 105) rfl V O (qO ⟨Z,ar,af,al,ac⟩ r1) rfl bd.out.i.own (by omega) rfl ?_;intro h5 w8 v y;have HM:=hI (bd.out.Vl y v);clear v y);go_ret;exact oM HM.out F.out (by omega) A l (by simp)
        ·have cH:r1=0:=by simpa using h1
         subst cH;clear h1;have b4:Hid ((dm f Z ar==0)=true):=by show _=_;rw[az.out];rfl
         obtain⟨cE,b5⟩:=EG b4.out;have b1:q+2<T.length:=a0.out cE;obtain⟨d0,d1,d2,d3,d4⟩:=pZ bd.out.t rfl (q+2) T[q+2] (QP b1);have cy:Hid (T.drop (q+1+1)=T[q+2] :: T.drop (q+3)):=Rf b1;rw[cy.out]at HE;generalize T[q+2]=b at *;obtain⟨bs,br,bf,bl,bc⟩:=b;simp only at d0 d1 d2 d3 d4;have cR:(q:Int)+2<(T.length:Int):=by omega
         obtain⟨r2,ca⟩:∃r2,Hid (dI bs br=r2):=⟨_,rfl⟩
         have a4:=hI (Bl bs bf br bl bc W5);rw[ca.out]at a4;have p:=hI (Jq (rec:=dQ f n) (fs:=f) (r:=T.drop (q+3)) (sn:=c) (t:=⟨J,P,tf,tl,tc⟩) (a:=⟨Z,ar,af,al,ac⟩) (b:=⟨bs,br,bf,bl,bc⟩) hA hi Q.out b4.out);rw[HE.out]at p;simp only at p;rw[ca.out]at p
         go_upto_region 19 with (go_at_call 119;refine QU a4.out ?_;rintro e w6 ⟨rfl,k6⟩;have z:=k6.get H (by simp);have f0:=am z 0;have f1:=am z 1;have f2:=am z 2;have f3:=am z 3;have f4:=am z 4;have o0:=aa z 0;have o1:=aa z 1;have o2:=aa z 2;have o3:=aa z 3;have o4:=aa z 4;have df:=ae z)
         obtain⟨W,ax⟩:∃W,Hid (((((w6.setCell ⟨C.heap.size,0,none⟩ (.string ⟨#[]⟩)).setCell ⟨C.heap.size,1,none⟩ (.int .i64 r2)).setCell ⟨C.heap.size,2,none⟩ (.string bf)).setCell ⟨C.heap.size,3,none⟩ (.int .i64 bl)).setCell ⟨C.heap.size,4,none⟩ (.int .i64 bc)=W):=⟨_,rfl⟩
         have K6:=(show Hid (ab [] _ W) by rw[<-ax.out];exact(((((K5.trans k6).setCell (QV (by exact ag)) _).setCell (QV (by exact ag)) _).setCell (QV (by exact ag)) _).setCell (QV (by exact ag)) _).setCell (QV (by exact ag)) _);have D:=hI (M.out.Vb K6.out)
         have BX:W.heap[C.heap.size]?=some (.cells #[.string ⟨#[]⟩,.int .i64 r2,.string bf,.int .i64 bl,.int .i64 bc] 138 (0,0)):=by
          rw[<-ax.out,ah (ah (ah (ah (ah z 0 _) 1 _) 2 _) 3 _) 4 _];rfl
         rw[ax.out];clear p0 p1 p2 p3 p4 d0 d1 d2 d3 d4 f0 f1 f2 f3 f4 o0 o1 o2 o3 o4 a4 ax H z K6 k6 K5;have p0:W.cell? ⟨C.heap.size,0,none⟩=some (.string ⟨#[]⟩):=by rw[aa BX];rfl
         have p1:W.cell? ⟨C.heap.size,1,none⟩=some (.int .i64 r2):=by rw[aa BX];rfl
         have p2:W.cell? ⟨C.heap.size,2,none⟩=some (.string bf):=by rw[aa BX];rfl
         have p3:W.cell? ⟨C.heap.size,3,none⟩=some (.int .i64 bl):=by rw[aa BX];rfl
         have p4:W.cell? ⟨C.heap.size,4,none⟩=some (.int .i64 bc):=by rw[aa BX];rfl
         have dp:=ae BX
         cases h2:(r2==0)
         ·have F:Hid (R=(O++[qO ⟨bs,br,bf,bl,bc⟩ r2],c)):=by show _=_;rw[p.out,QW h2]
          have A:(O++[qO ⟨bs,br,bf,bl,bc⟩ r2]).length+2000*aQ c<=d.length+2000*aQ m:=by rw[j.out,L.out];simp;omega
          have l:aQ c<=aQ m:=by rw[j.out,L.out];omega
          go_wp2_with (at_builtin;refine bY _ rfl (.tmp 103) (.tmp 105) rfl V O (qO ⟨bs,br,bf,bl,bc⟩ r2) rfl D.out.i.own (by omega) rfl ?_;intro h5 w8 v y;have HM:=hI (D.out.Vl y v);clear v y);go_ret;exact oM HM.out F.out (by omega) A l (by simp)
         ·have cb:r2=0:=by simpa using h2
          subst cb;clear h2;rw[QT (by simp)]at p;obtain⟨jn,bx⟩:∃jn:Nat,bF f Z=(jn:Int):=⟨(bF f Z).toNat,by omega⟩
          have cl:jn<f.length:=by have:=No b5;omega
          have c9:(jn:Int)<(f.length:Int):=by omega
          have cX:(0:Int)<=(jn:Int):=by omega
          have aS:=hI (mu f (some ⟨x,0,none⟩) S Z W (by omega) D.out.i.src);rw[bx]at aS p;rw[Sa]at p;obtain⟨e0,-⟩:=pZ D.out.t rfl (q+1) _ cq.out;simp only at e0;obtain⟨bj,a7⟩:∃bj,c[jn]?=some bj:=⟨_,QP (by omega)⟩
          have sj:=D.out.i.seen.cell jn bj a7;have cA:c.getD jn true=bj:=by rw[QQ,a7];rfl
          rw[cA]at p;have c7:=ae D.out.i.seen;have cT:gT<W.heap.size:=D.out.t.lt rfl;clear bx b5
          cases bj
          ·rw[QT (by simp)]at p
           have ad:=hI (cz.out jn c O V N I W (by rw[j.out];omega) z3 b3 cl a7 (by rw[j.out];omega) D.out.i);obtain⟨R7,cB⟩:∃R7,Hid (dQ f n jn c O=R7):=⟨_,rfl⟩
           rw[cB.out]at ad p;obtain⟨O7,G⟩:=R7
           go_upto_region 24 with (first | (go_at_call 35;refine QU aS.out ?_;rintro e w9 ⟨rfl,B⟩;rw[B];clear B) | (go_at_call 82;refine QU ad.out ?_;rintro e w7 ⟨h7,rfl,o7,s7,r7,l7,n7,u7⟩;have bp:=hI (D.out.turn r7 o7 s7)))
           clear p0 p1 p2 p3 p4 e0 sj ad aS BX;have l7:G.length=c.length:=l7;have n7:O7.length+2000*aQ G<=O.length+2000*aQ c:=n7;have u7:aQ G<=aQ c:=u7;obtain⟨bk,cx⟩:∃bk,Hid (eu O7=bk):=⟨_,rfl⟩
           have cs:O7.length<=100000:=by rw[j.out]at n7;omega
           have K:=hI (uC O7 h7.ao h7.cap w7 cs o7.src);rw[cx.out]at K p;rw[j.out]at n7 u7;clear o7 s7 r7
           cases bk
           ·have F:Hid (cv (dQ f n) f (T.drop (q+3)) G O7=R):=by show _=_;rw[p.out,QT (by simp)]
            go_wp2_with (go_at_call 83;refine QU K.out ?_;rintro e w9 ⟨rfl,B⟩;rw[B];clear B)
            go_roundg (T.length-(q+3))
            case measure=>omega
            case rel=>exact⟨q+3,h7,O7,G,by omega,rfl,rfl,by go_num,⟨by omega,by omega,by omega⟩,F,bp⟩
           ·have F:Hid (R=(O7,G)):=by show _=_;rw[p.out,QW rfl]
            have A:O7.length+2000*aQ G<=d.length+2000*aQ m:=by rw[L.out];omega
            have l:aQ G<=aQ m:=by rw[L.out];omega
            go_wp2_with (go_at_call 83;refine QU K.out ?_;rintro e w9 ⟨rfl,B⟩;rw[B];clear B);go_ret;exact oM bp.out F.out (by omega) A l rfl
          ·rw[QW rfl]at p
           go_wp2_with (go_at_call 35;refine QU aS.out ?_;rintro e w9 ⟨rfl,B⟩;rw[B];clear B)
           go_roundg (T.length-(q+3))
           case measure=>omega
           case rel=>exact⟨q+3,V,O,c,by omega,rfl,rfl,by go_num,⟨by rw[j.out];omega,by rw[j.out];exact z2,z3⟩,p.out.symm,D⟩
     ·cases bw
      ·have F:Hid (R=(O++[qO ⟨J,P,tf,tl,tc⟩ 7],c)):=by show _=_;rw[<-HE.out];exact by rw[yZ hA,QT (by rw[Q.out];simp)]
       have A:(O++[qO ⟨J,P,tf,tl,tc⟩ 7]).length+2000*aQ c<=d.length+2000*aQ m:=by rw[j.out,L.out];simp;omega
       have l:aQ c<=aQ m:=by rw[j.out,L.out];omega
       go_wp2_with (at_builtin;refine bY _ rfl (.tmp 50) (.tmp 57) rfl V O (qO ⟨J,P,tf,tl,tc⟩ 7) rfl M.out.i.own (by omega) rfl ?_;intro h5 C v y;have HM:=hI (M.out.Vl y v);clear v y);go_ret;exact oM HM.out F.out (by omega) A l (by simp)
      ·have F:Hid (R=(O,c)):=by show _=_;rw[<-HE.out,yZ hA,QW Q.out]
       have A:O.length+2000*aQ c<=d.length+2000*aQ m:=by rw[j.out,L.out];omega
       have l:aQ c<=aQ m:=by rw[j.out,L.out];omega
       go_wp2;go_ret;exact oM M.out F.out (by omega) A l rfl
   ·have e:q=T.length:=by omega
    subst e;have F:Hid (R=(O,c)):=by show _=_;rw[<-HE.out,List.drop_length,cv]
    have A:O.length+2000*aQ c<=d.length+2000*aQ m:=by rw[j.out,L.out];omega
    have l:aQ c<=aQ m:=by rw[j.out,L.out];omega
    go_wp2;go_ret;exact oM M.out F.out (by omega) A l rfl
theorem Ls:(prog.info? 4).map (fun i=>(i.zero,i.size,i.bytes))=some (some (.bool false),1,1):=by kernel_rfl
theorem wE:madeCells (Value.bool false).cells (S*1)=((List.replicate S false).map Value.bool).toArray:=by
 rw[UZ]
 apply Array.ext
 ·rw[Su];simp
 ·intro i a b
  have e:(Value.bool false).cells=#[.bool false]:=rfl;simp[madeCells,e,Nat.mod_one]
def pt(fs:Fs)(k:Nat):List Tk:=(dQ fs fs.length k (List.replicate fs.length false) []).1
def jf:Tk:=⟨⟨#[]⟩,0,⟨#[]⟩,0,0⟩
def cC(fs:Fs)(k:Nat):List Tk×Tk:=if eu (pt fs k)=true then((pt fs k).dropLast,(pt fs k).getLast?.getD jf) else(pt fs k,jf)
theorem mP:aQ (List.replicate S false)=S:=by
 unfold aQ;rw[List.countP_replicate];simp
theorem lj.drop(h:lj k g v d):lj k g v d.dropLast:=by
 refine⟨by rw[SF];have:=h.1;omega,fun b t a=>h.2 b t ?_⟩;rw[List.getElem?_dropLast]at a
 split at a
 ·exact a
 ·cases a
theorem lj.keptS{S:List Nat}(h:lj k g v d)(c:ab S k M)(r:∀a,g=some ⟨a,0,none⟩->a∉S):lj M g v d:=by
 refine⟨h.1,fun j t f=>?_⟩;obtain⟨a,e,b,p,l,n,i,m⟩:=h.2 j t f;have q:∀o,M.cell? ⟨a,o,none⟩=k.cell? ⟨a,o,none⟩:=fun o=>Q6 (c.block a b (r a e))
 exact⟨a,e,QX b c.size,by rw[q];exact p,by rw[q];exact l,by rw[q];exact n,by rw[q];exact i,by rw[q];exact m⟩
theorem sI{i l n j:Value}(h:k.heap[v]?=some (.cells #[i,l,n,j] 87 (0,0)))(a b c d:Value) :
  (k.setCell ⟨v,0,none⟩ a).cell? ⟨v,0,none⟩=some a/\((k.setCell ⟨v,0,none⟩ a).setCell ⟨v,1,none⟩ b).cell? ⟨v,1,none⟩=some b/\(((k.setCell ⟨v,0,none⟩ a).setCell ⟨v,1,none⟩ b).setCell ⟨v,2,none⟩ c).cell? ⟨v,2,none⟩=some c/\((((k.setCell ⟨v,0,none⟩ a).setCell ⟨v,1,none⟩ b).setCell ⟨v,2,none⟩ c).setCell ⟨v,3,none⟩ d).cell? ⟨v,3,none⟩=some d:=by
 have f:=ah h 0 a;have g:=ah f 1 b;have e:=ah g 2 c;have m:=ah e 3 d;exact⟨by rw[aa f];rfl,by rw[aa g];rfl,by rw[aa e];rfl,by rw[aa m];rfl⟩
theorem Ij(af:f.length<=4)(ag:∀x,(ak f x).size<=1024)(hk:x<f.length)(hO:mV T (some ⟨l,0,none⟩) b f)(hg:l<T.heap.size) :
  Calls prog 54 #[.slice (some ⟨l,0,none⟩) f.length b,.int .i64 x] T fun e w'=>∃ao c,e=.returned (.tuple #[.slice ao (cC f x).1.length c,.agg #[.int .i64 (cC f x).2.rule,.string (cC f x).2.file,.int .i64 (cC f x).2.line,.int .i64 (cC f x).2.col]])/\lj w' ao c (cC f x).1/\ab [] T w'/\∀g,ao=some ⟨g,0,none⟩->T.heap.size<=g/\g<w'.heap.size:=by
 obtain⟨i1,ad,ai,az,a0⟩:=Re Ls;have m2:=fun T=>dB (P:=prog) T 134 4 i1 _ underlying134 ad ai f.length 1 az (by rw[a0];omega) (by omega)
 obtain⟨mc,K⟩:∃mc,Hid (madeCells (Value.bool false).cells (f.length*1)=mc):=⟨_,rfl⟩
 have aS:Hid (mc=((List.replicate f.length false).map Value.bool).toArray):=by show _=_;rw[<-K.out,wE]
 rw[K.out]at m2;have a1:=hO.1;obtain⟨W,U⟩:∃W,Hid ((T.alloc (.cells #[.int .i64 0,.string ⟨#[]⟩,.int .i64 0,.int .i64 0] 87)).alloc (.cells mc 4)=W):=⟨_,rfl⟩
 have KW:ab [] T W:=by rw[<-U.out];exact((ab.refl [] _).alloc _).alloc _
 have SW:jy W (T.heap.size+1) (List.replicate f.length false):=by
  rw[<-U.out,aS.out];have:=QS (T.alloc (.cells #[.int .i64 0,.string ⟨#[]⟩,.int .i64 0,.int .i64 0] 87)) (.cells ((List.replicate f.length false).map Value.bool).toArray 4);simpa [jy] using this
 have Y:W.heap[T.heap.size]?=some (.cells #[.int .i64 0,.string ⟨#[]⟩,.int .i64 0,.int .i64 0] 87 (0,0)):=by
  rw[<-U.out];exact((ab.refl [] _).alloc _).get (QS _ _) (by simp)
 have O:rg W l b f (T.heap.size+1) (List.replicate f.length false) ⟨none,0⟩ []:=⟨QZ _ _ _ _,SW,hO.kept KW (by simp),(by intro e;cases e),(by intro e;cases e),by omega,QX hg KW.size⟩;have B:=hI (Js f l b af ag f.length x (List.replicate f.length false) [] ⟨none,0⟩ (T.heap.size+1) f.length W (by rw[mP];omega) (by simp) (by omega) hk (by rw[Sf];simp[hk]) (by rw[mP];simp;omega) O);have h:=hI KW;clear O SW KW hO;go_enter func54,ntmps54
 go_upto_region 2 with fail
 rw[U.out];obtain⟨Z,R⟩:∃Z,Hid (dQ f f.length x (List.replicate f.length false) []=Z):=⟨_,rfl⟩
 rw[R.out]at B;have y:Hid (pt f x=Z.1):=by show _=_;unfold pt;rw[R.out]
 obtain⟨L,aT⟩:=Z;have y:Hid (pt f x=L):=y.out
 go_upto_region 3 with (go_at_call 82;refine QU B.out ?_;rintro e a ⟨d,rfl,M,s7,r7,l7,n7,u7⟩)
 have n7:L.length+2000*aQ aT<=0+2000*aQ (List.replicate f.length false):=n7;rw[mP]at n7;have M:aw a d (ir L):=M;have hL:L.length<=100000:=by omega
 have D:ab [T.heap.size+1] W a:=r7.kept;have m:=D.get Y (by simp)
 have A:Hid (∀g,d.ao=some ⟨g,0,none⟩->g∉[T.heap.size]):=fun g o X=>by
  have F:d.blk=some g:=by unfold Hd.blk;rw[o];rfl
  have e3:=ae Y;simp at X
  rcases r7.blk with e | ⟨q,e,ap⟩
  ·rw[F]at e;cases e
  ·rw[F]at e;cases e;omega
 have p:Hid (∀g,d.ao=some ⟨g,0,none⟩->T.heap.size<=g/\g<a.heap.size):=fun g o=>by
  have F:d.blk=some g:=by unfold Hd.blk;rw[o];rfl
  have e3:=ae Y;have e4:=M.lt F
  rcases r7.blk with e | ⟨q,e,ap⟩
  ·rw[F]at e;cases e
  ·rw[F]at e;cases e;omega
 have C:Hid (ab [] T a):=⟨D.os.trans h.out.os,D.tape.trans h.out.tape,D.output.trans h.out.output,Q3 h.out.size D.size,fun q X _=>by rw[D.block q (QX X h.out.size) (by simp;omega),h.out.block q X (by simp)]⟩;obtain⟨bk,u⟩:∃bk,Hid (eu L=bk):=⟨_,rfl⟩
 have j:=hI (uC L d.ao d.cap a hL M.src);rw[u.out]at j;have f0:=am m 0;have f1:=am m 1;have f2:=am m 2;have f3:=am m 3;have g0:a.cell? ⟨T.heap.size,0,none⟩=some (.int .i64 0):=by rw[aa m];rfl
 have g1:a.cell? ⟨T.heap.size,1,none⟩=some (.string ⟨#[]⟩):=by rw[aa m];rfl
 have g2:a.cell? ⟨T.heap.size,2,none⟩=some (.int .i64 0):=by rw[aa m];rfl
 have g3:a.cell? ⟨T.heap.size,3,none⟩=some (.int .i64 0):=by rw[aa m];rfl
 have y7:=ae m;have k:=hI M.src;clear B Y U m2 r7 s7 l7 u7 h D
 cases bk
 ·have V:Hid (cC f x=(L,jf)):=by show _=_;unfold cC;rw[y.out,u.out,QT (by simp)]
  go_wp2_with (go_at_call 83;refine QU j.out ?_;rintro e w9 ⟨rfl,r⟩;rw[r];clear r);obtain⟨x0,x1,x2,x3⟩:=sI m (.int .i64 0) (.string ⟨#[]⟩) (.int .i64 0) (.int .i64 0);have N:ab [T.heap.size] a ((((a.setCell ⟨T.heap.size,0,none⟩ (.int .i64 0)).setCell ⟨T.heap.size,1,none⟩ (.string ⟨#[]⟩)).setCell ⟨T.heap.size,2,none⟩ (.int .i64 0)).setCell ⟨T.heap.size,3,none⟩ (.int .i64 0)):=((((ab.refl _ _).setCell (Q1 (by simp)) _).setCell (Q1 (by simp)) _).setCell (Q1 (by simp)) _).setCell (Q1 (by simp)) _;exact QY (v:=.tuple #[.slice d.ao L.length d.cap,.agg #[.int .i64 0,.string ⟨#[]⟩,.int .i64 0,.int .i64 0]]) (by simp[results,results54,go_sem,x0,x1,x2,x3]) rfl ⟨d.ao,d.cap,by rw[V.out];rfl,by rw[V.out];exact lj.keptS k.out N A.out,(((C.out.setCell (QV (by simp)) _).setCell (QV (by simp)) _).setCell (QV (by simp)) _).setCell (QV (by simp)) _,fun g o=>⟨(p.out g o).1,QX (p.out g o).2 N.size⟩⟩
 ·have hn:0<L.length:=by
   cases al:L with
   | nil=>rw[al]at u;cases u.out
   | cons _ _=>simp
  obtain⟨n,s⟩:∃n,Hid (L.length=n):=⟨_,rfl⟩
  have Q:n-1<L.length:=by rw[<-s.out];omega
  rw[s.out]at hn hL j ⊢;obtain⟨gs,o,a5,c0,c1,c2,c3,c4⟩:=k.out.2 (n-1) L[n-1] (QP Q)
  have V:Hid (cC f x=(L.dropLast,L[n-1])):=by
   show _=_
   unfold cC;rw[y.out,u.out,QW rfl,SO,s.out,QP Q];rfl
  have ar:Hid (L.dropLast.length=n-1):=by show _=_;rw[SF,s.out]
  have a4:n<=d.cap:=by have:=k.out.1;rw[s.out]at this;exact this
  generalize L[n-1]=t at *;obtain⟨ts,I,E,G,H⟩:=t;simp only at c0 c1 c2 c3 c4;have a2:IntKind.i64.wrap ((n:Int)-1)=(n:Int)-1:=by rw[R9];omega
  have a3:((n:Int)-1).toNat=n-1:=by omega
  have b1:(0:Int)<=(n:Int)-1:=by omega
  have b2:(n:Int)-1<(n:Int):=by omega
  have b3:(1:Int)<=(n:Int):=by omega
  have b4:(n:Int)-1<=(d.cap:Int):=by omega
  have b5:(0:Int)<(n:Int):=by omega
  rw[o]at j k A p ⊢;obtain⟨i,z⟩:∃i,Hid (a.alloc (.cells #[.string ts,.int .i64 I,.string E,.int .i64 G,.int .i64 H] 138)=i):=⟨_,rfl⟩
  go_upto_region 7 with (go_at_call 83;refine QU j.out ?_;rintro e w9 ⟨rfl,r⟩;rw[r];clear r)
  rw[z.out];have S:ab [] a i:=by rw[<-z.out];exact(ab.refl [] _).alloc _
  have J:i.heap[a.heap.size]?=some (.cells #[.string ts,.int .i64 I,.string E,.int .i64 G,.int .i64 H] 138 (0,0)):=by rw[<-z.out];exact QS _ _
  have w:=S.get m (by simp);have ac:=hI (lj.drop (lj.Vb k.out S));have ax:=hI (C.out.trans S);have an:=hI S.size;clear c0 c1 c2 c3 c4 f0 f1 f2 f3 g0 g1 g2 g3 j z m S C k;have p1:i.cell? ⟨a.heap.size,1,none⟩=some (.int .i64 I):=by rw[aa J];rfl
  have p2:i.cell? ⟨a.heap.size,2,none⟩=some (.string E):=by rw[aa J];rfl
  have p3:i.cell? ⟨a.heap.size,3,none⟩=some (.int .i64 G):=by rw[aa J];rfl
  have p4:i.cell? ⟨a.heap.size,4,none⟩=some (.int .i64 H):=by rw[aa J];rfl
  have f0:=am w 0;have f1:=am w 1;have f2:=am w 2;have f3:=am w 3;have g0:i.cell? ⟨T.heap.size,0,none⟩=some (.int .i64 0):=by rw[aa w];rfl
  have g1:i.cell? ⟨T.heap.size,1,none⟩=some (.string ⟨#[]⟩):=by rw[aa w];rfl
  have g2:i.cell? ⟨T.heap.size,2,none⟩=some (.int .i64 0):=by rw[aa w];rfl
  have g3:i.cell? ⟨T.heap.size,3,none⟩=some (.int .i64 0):=by rw[aa w];rfl
  have y8:=ae J;have y9:=ae w
  go_region
  go_wp2;obtain⟨x0,x1,x2,x3⟩:=sI w (.int .i64 I) (.string E) (.int .i64 G) (.int .i64 H);have N:ab [T.heap.size] i ((((i.setCell ⟨T.heap.size,0,none⟩ (.int .i64 I)).setCell ⟨T.heap.size,1,none⟩ (.string E)).setCell ⟨T.heap.size,2,none⟩ (.int .i64 G)).setCell ⟨T.heap.size,3,none⟩ (.int .i64 H)).drew:=(((((ab.refl _ _).setCell (Q1 (by simp)) _).setCell (Q1 (by simp)) _).setCell (Q1 (by simp)) _).setCell (Q1 (by simp)) _).drew;exact QY (v:=.tuple #[.slice (some ⟨gs,0,none⟩) (n-1) d.cap,.agg #[.int .i64 I,.string E,.int .i64 G,.int .i64 H]]) (by simp[results,results54,go_sem,x0,x1,x2,x3]) rfl ⟨some ⟨gs,0,none⟩,d.cap,by rw[V.out,ar.out],by rw[V.out];exact lj.keptS ac.out N A.out,((((ax.out.setCell (QV (by simp)) _).setCell (QV (by simp)) _).setCell (QV (by simp)) _).setCell (QV (by simp)) _).drew,fun g o=>⟨(p.out g o).1,QX (p.out g o).2 (Q3 an.out N.size)⟩⟩
structure Sm where
 a:Nat
 z:Nat
 h:Nat
 k:ByteArray
def A6(w:World)(ao:Option Addr)(cap:Nat)(S:List Sm):Prop:=S.length<=cap/\∀k s,S[k]?=some s->∃g,ao=some ⟨g,0,none⟩/\g<w.heap.size /\
  w.cell? ⟨g,k*4,none⟩=some (.int .i64 s.a)/\w.cell? ⟨g,k*4+1,none⟩=some (.int .i64 s.z)/\w.cell? ⟨g,k*4+2,none⟩=some (.int .i64 s.h)/\w.cell? ⟨g,k*4+3,none⟩=some (.string s.k)
theorem A6.Vb{S:List Sm}(h:A6 k g v S)(c:ab [] k M):A6 M g v S:=by
 refine⟨h.1,fun j t d=>?_⟩;obtain⟨a,e,b,m,i,l,f⟩:=h.2 j t d;have q:∀o,M.cell? ⟨a,o,none⟩=k.cell? ⟨a,o,none⟩:=fun o=>Q6 (c.block a b (by simp))
 exact⟨a,e,QX b c.size,by rw[q];exact m,by rw[q];exact i,by rw[q];exact l,by rw[q];exact f⟩
structure fz(w:World)(b:Nat)(T:List Tk)(aoT:Option Addr)(cT:Nat)(S:List Sm)(aoS:Option Addr)(cS:Nat):Prop where
 d:w.heap[b]?=some (.cells #[.slice aoT T.length cT,.slice aoS S.length cS] 141 (0,0))
 t:lj w aoT cT T
 s:A6 w aoS cS S
theorem fz.Vb{S:List Sm}(h:fz k v d g z0 S y0 z5)(a:ab [] k M):fz M v d g z0 S y0 z5 :=
 ⟨a.get h.d (by simp),h.t.Vb a,h.s.Vb a⟩
theorem fz.cells{S:List Sm}(h:fz k v d g z0 S y0 z5):k.cell? ⟨v,0,none⟩=some (.slice g d.length z0)/\k.cell? ⟨v,1,none⟩=some (.slice y0 S.length z5)/\v<k.heap.size :=
 ⟨by rw[aa h.d];rfl,by rw[aa h.d];rfl,ae h.d⟩
def aC(k:ByteArray):Bool:=(k.toList == [36,97])||(k.toList == [36,112])
def aG(k:ByteArray):Bool:=(k.toList == [36,102])||(k.toList == [36,101])
theorem fT :
  Calls prog 122 #[.string n] T fun e a=>e=.returned (.bool (aC n))/\a=T:=by
 go_enter func122,ntmps122;go_wp2
 all_goals go_ret
 all_goals (refine⟨?_,rfl⟩;simp[aC, *])
theorem lJ :
  Calls prog 123 #[.string n] T fun e a=>e=.returned (.bool (aG n))/\a=T:=by
 go_enter func123,ntmps123;go_wp2
 all_goals go_ret
 all_goals (refine⟨?_,rfl⟩;simp[aG, *])
def ge(w:World)(ao:Option Addr)(L:List ByteArray):Prop:=∀k x,L[k]?=some x->∃g,ao=some ⟨g,0,none⟩/\g<w.heap.size/\w.cell? ⟨g,k,none⟩=some (.string x)
theorem aw.srcX(o:aw k z4 (aB zb)):ge k z4.ao zb:=by
 intro d x b
 rcases o.Vm with ⟨_,c,_⟩ | ⟨g,f,a,e,h,-⟩
 ·have c:zb.length=0:=c
  have:=(Q8.1 b).1;omega
 ·exact⟨g,a,ae e,o.cell a d (.string x) (by simp[aB,cN,b])⟩
theorem Nv(a:S<y.length)(h:(y[S].toList==n.toList)=true):aJ y n=true:=by
 unfold aJ;exact RC.2 ⟨y[S],Rb a,h⟩
theorem Nw(h:∀k (a:k<y.length),(y[k].toList==n.toList)=false):aJ y n=false:=by
 unfold aJ;rw[TH];intro c b;obtain⟨k,a,e⟩:=R0 b;have:=h k a;rw[e]at this;rw[this];simp
theorem j9(d:ge T i y)(v:y.length<=1000000000) :
  Calls prog 93 #[.slice i y.length x,.string n] T fun e o=>e=.returned (.bool (aJ y n))/\o=T:=by
 have s:=hI d;clear d;go_enter func93,ntmps93;go_wp2
 go_loopg [5] y.length (fun g p wr=>∃k:Nat,k<=y.length/\g=y.length-k/\p=.int .i64 k/\Hid (∀j (a:j<y.length),j<k->(y[j].toList==n.toList)=false)/\wr=T)
 case atStart=>exact⟨0,by omega,by omega,rfl,(fun j _ h=>by omega),rfl⟩
 case round =>
  obtain⟨k,B,C,rfl,l,rfl⟩:=hrel
  by_cases b:k<y.length
  ·obtain⟨A,rfl,u,w⟩:=s.out k y[k] (QP b)
   have t:(k:Int)<(y.length:Int):=by omega
   have q:Hid ((y[k].toList==n.toList)=true->aJ y n=true):=Nv y n k b
   have r:Hid ((y[k].toList==n.toList)=false->∀j (a:j<y.length),j<k+1->(y[j].toList==n.toList)=false):=fun h j a z=>by
    by_cases e:j=k
    ·subst e;exact h
    ·exact l.out j a (by omega)
   generalize y[k]=m at *
   cases f:(m.toList==n.toList)
   ·have c:Hid (∀j (a:j<y.length),j<k+1->(y[j].toList==n.toList)=false):=r.out f
    go_wp2
    go_roundg (y.length-(k+1))
    case measure=>omega
    case rel=>exact⟨k+1,by omega,rfl,by go_num,c,rfl⟩
   ·have c:Hid (aJ y n=true):=q.out f
    go_wp2;go_ret;exact⟨aD c.out.symm,rfl⟩
  ·have c:Hid (aJ y n=false):=Nw y n (fun j a=>l.out j a (by omega))
   go_wp2;go_ret;exact⟨aD c.out.symm,rfl⟩
def tS(T:List Tk)(i:Nat):ByteArray:=(T.getD i jf).s
theorem iw(h:S<w.length):w[S]?=some (w.getD S jf):=by
 rw[QQ,QP h];rfl
def ew(T:List Tk)(b:Nat):ByteArray×Nat:=if(ii (tS T b) ⟨#[36]⟩||decide (T.length<=b+1))=true then(tS T b,b+1) else(tS T (b+1),b+2)
theorem Gq(L:List Sm)(o:Option Addr)(G:Nat)(f:World)(q:fz f l w i S L o G)(J:b<w.length)(I:w.length<=100000)(H:∀K,(tS w K).size<=1073741824) :
  Calls prog 85 #[.pointer (some ⟨l,0,none⟩),.int .i64 b] f fun e C=>e=.returned (.tuple #[.string (ew w b).1,.int .i64 ((ew w b).2:Nat)])/\C=f:=by
 obtain⟨D,-,N⟩:=q.cells;obtain⟨v,rfl,B,k,-⟩:=q.t.2 b _ (iw w b J);replace k:f.cell? ⟨v,b*5,none⟩=some (.string (tS w b)):=k;have r:(b:Int)<(w.length:Int):=by omega
 have s:=H b;have c:((b+1:Nat):Int)=(b:Int)+1:=by omega
 have p:((b+2:Nat):Int)=(b:Int)+2:=by omega
 obtain⟨x,g⟩:∃x,Hid (tS w b=x):=⟨_,rfl⟩
 rw[g.out]at k s;obtain⟨n,h⟩:∃n,Hid (w.length=n):=⟨_,rfl⟩
 rw[h.out]at D r I
 cases m:ii x ⟨#[36]⟩
 ·by_cases M:n<=b+1
  ·have d:Hid (ew w b=(x,b+1)):=by show _=_;unfold ew;rw[g.out,m,h.out,QW (by simp;omega)]
   have j:(n:Int)<=(b:Int)+1:=by omega
   go_enter func85,ntmps85;go_wp2_with (go_at_call 120;refine(fF x _ _ (by omega) (by show 1<=_;omega)).mono ?_;rintro e u ⟨rfl,a⟩;rw[a];clear a);go_ret2;exact⟨by rw[d.out];show _=Ending.returned (.tuple #[.string x,.int .i64 ((b+1:Nat):Int)]);rw[c];rfl,rfl⟩
  ·have d:Hid (ew w b=(tS w (b+1),b+2)):=by show _=_;unfold ew;rw[g.out,m,h.out,QT (by simp;omega)]
   have j:¬(n:Int)<=(b:Int)+1:=by omega
   have F:(b:Int)+1<(n:Int):=by omega
   obtain⟨A,E,-,z,-⟩:=q.t.2 (b+1) _ (iw w (b+1) (by rw[h.out];omega))
   cases E
   replace z:f.cell? ⟨v,(b+1)*5,none⟩=some (.string (tS w (b+1))):=z;generalize tS w (b+1)=y at *;go_enter func85,ntmps85;go_wp2_with (go_at_call 120;refine(fF x _ _ (by omega) (by show 1<=_;omega)).mono ?_;rintro e u ⟨rfl,a⟩;rw[a];clear a);go_ret2;exact⟨by rw[d.out];show _=Ending.returned (.tuple #[.string y,.int .i64 ((b+2:Nat):Int)]);rw[p];rfl,rfl⟩
 ·have d:Hid (ew w b=(x,b+1)):=by show _=_;unfold ew;rw[g.out,m,QW (by simp)]
  go_enter func85,ntmps85;go_wp2_with (go_at_call 120;refine(fF x _ _ (by omega) (by show 1<=_;omega)).mono ?_;rintro e u ⟨rfl,a⟩;rw[a];clear a);go_ret2;exact⟨by rw[d.out];show _=Ending.returned (.tuple #[.string x,.int .i64 ((b+1:Nat):Int)]);rw[c];rfl,rfl⟩
def qE:Int->List Sm->Bool
 | _,[]=>true
 | o,s :: r=>if aO o s.k<0 then false else qE (aO o s.k) r
def aV(S:List Sm)(j n:Nat):Bool:=qE 0 ((S.drop j).take (n-j))
def bb(S:List Sm)(n:Nat):Int:=(S.take n).foldl (fun o s=>aO o s.k) 0
theorem uG(S:List Sm)(k:Nat)(h:k<S.length):bb S (k+1)=aO (bb S k) S[k].k:=by
 unfold bb;rw[RG h,Sw];rfl
theorem Di(c:(D.toList == [36,123])=true)(a:(D.toList == [36,125])=true):False:=by
 have b:D.toList=[36,123]:=by simpa using c
 rw[b]at a;exact absurd a (by decide)
theorem DT(a:List Sm)(p:Option Addr)(y:Nat)(n:World)(r:fz n l w i S a p y)(N:b<=a.length)(I:a.length<=100000) :
  Calls prog 168 #[.pointer (some ⟨l,0,none⟩),.int .i64 b] n fun e x=>e=.returned (.int .i64 (bb a b))/\x=n:=by
 obtain⟨-,M,K⟩:=r.cells;have B:=hI r.s.2;clear r;go_enter func168,ntmps168;go_wp2
 go_loopg [5,6] b (fun g o C wr=>∃(k:Nat) (m:Int),k<=b/\g=b-k/\o=.int .i64 m/\C=.int .i64 k/\(-(k:Int)<=m/\m<=(k:Int))/\Hid (m=bb a k)/\wr=n)
 case atStart=>exact⟨0,0,by omega,rfl,rfl,rfl,by omega,rfl,rfl⟩
 case round =>
  obtain⟨k,m,O,P,rfl,rfl,H,v,rfl⟩:=hrel
  by_cases z:k<b
  ·have c:k<a.length:=by omega
   obtain⟨J,rfl,E,-,-,-,A⟩:=B.out k a[k] (QP c);have h:=hI (uG a k c);have D:(k:Int)<(b:Int):=by omega
   have u:(k:Int)<(a.length:Int):=by omega
   rw[<-v.out]at h;generalize a[k]=t at *;obtain⟨G,L,F,q⟩:=t;simp only at A h
   cases j:(q.toList == [36,123])
   ·cases d:(q.toList == [36,125])
    ·have f:Hid (m=bb a (k+1)):=by show _=_;rw[h.out,aO,j,d];simp
     go_wp2
     go_roundg (b-(k+1))
     case measure=>omega
     case rel=>exact⟨k+1,m,by omega,rfl,rfl,by go_num,by omega,f,rfl⟩
    ·have f:Hid (m-1=bb a (k+1)):=by show _=_;rw[h.out,aO,j,d];simp
     go_wp2
     go_roundg (b-(k+1))
     case measure=>omega
     case rel=>exact⟨k+1,m-1,by omega,rfl,by go_num,by go_num,by omega,f,rfl⟩
   ·cases d:(q.toList == [36,125])
    ·have f:Hid (m+1=bb a (k+1)):=by show _=_;rw[h.out,aO,j,d];simp
     go_wp2
     go_roundg (b-(k+1))
     case measure=>omega
     case rel=>exact⟨k+1,m+1,by omega,rfl,by go_num,by go_num,by omega,f,rfl⟩
    ·exact(Di j d).elim
  ·have e:k=b:=by omega
   subst e;go_wp2;go_ret;exact⟨QN v.out,rfl⟩
theorem Kw(S:List Sm)(k n:Nat)(h:k<n)(a:n<=S.length):(S.drop k).take (n-k)=S[k]'(by omega) :: (S.drop (k+1)).take (n-(k+1)):=by
 rw[Rf (by omega),show n-k=(n-(k+1))+1 by omega,List.take_succ_cons]
theorem lk(c:List Sm)(u:Option Addr)(D:Nat)(q:World)(y:fz q a w i S c u D)(V:l<=b)(F:b<=c.length)(O:c.length<=100000) :
  Calls prog 92 #[.pointer (some ⟨a,0,none⟩),.int .i64 l,.int .i64 b] q fun e B=>e=.returned (.bool (aV c l b))/\B=q:=by
 obtain⟨-,T,Q⟩:=y.cells;have G:=hI y.s.2;clear y;go_enter func92,ntmps92;go_wp2
 go_loopg [7,8] (b-l) (fun g o H wr=>∃(k:Nat) (m:Int),(l<=k/\k<=b)/\g=b-k/\o=.int .i64 m/\H=.int .i64 k/\(0<=m/\m<=(k:Int))/\Hid (aV c l b=qE m ((c.drop k).take (b-k)))/\wr=q)
 case atStart=>exact⟨l,0,⟨by omega,by omega⟩,rfl,rfl,rfl,by omega,rfl,rfl⟩
 case round =>
  obtain⟨k,m,⟨I,U⟩,W,rfl,rfl,N,f,rfl⟩:=hrel
  by_cases x:k<b
  ·have r:k<c.length:=by omega
   obtain⟨P,rfl,K,-,-,-,E⟩:=G.out k c[k] (QP r);have C:=hI (Kw c k b x F);rw[C.out,qE]at f;have J:(k:Int)<(b:Int):=by omega
   have A:(k:Int)<(c.length:Int):=by omega
   generalize c[k]=t at *;obtain⟨M,R,L,h⟩:=t;simp only at E f
   cases p:(h.toList == [36,123])
   ·cases n:(h.toList == [36,125])
    ·have d:Hid (aV c l b=qE m ((c.drop (k+1)).take (b-(k+1)))):=by
      have j:aO m h=m:=by unfold aO;rw[p,n];simp
      have:=f.out;rw[j,QT (by omega)]at this;exact this
     have v:¬m<0:=by omega
     go_wp2
     go_roundg (b-(k+1))
     case measure=>omega
     case rel=>exact⟨k+1,m,⟨by omega,by omega⟩,rfl,rfl,by go_num,by omega,d,rfl⟩
    ·have j:aO m h=m-1:=by unfold aO;rw[p,n];simp
     rw[j]at f
     by_cases z:m-1<0
     ·have d:Hid (aV c l b=false):=by
       have:=f.out;rw[QW z]at this;exact this
      go_wp2;go_ret;exact⟨aD d.out.symm,rfl⟩
     ·have d:Hid (aV c l b=qE (m-1) ((c.drop (k+1)).take (b-(k+1)))):=by
       have:=f.out;rw[QT z]at this;exact this
      go_wp2
      go_roundg (b-(k+1))
      case measure=>omega
      case rel=>exact⟨k+1,m-1,⟨by omega,by omega⟩,rfl,by go_num,by go_num,by omega,d,rfl⟩
   ·cases n:(h.toList == [36,125])
    ·have d:Hid (aV c l b=qE (m+1) ((c.drop (k+1)).take (b-(k+1)))):=by
      have j:aO m h=m+1:=by unfold aO;rw[p,n];simp
      have:=f.out;rw[j,QT (by omega)]at this;exact this
     have v:¬m+1<0:=by omega
     go_wp2
     go_roundg (b-(k+1))
     case measure=>omega
     case rel=>exact⟨k+1,m+1,⟨by omega,by omega⟩,rfl,by go_num,by go_num,by omega,d,rfl⟩
    ·exact(Di p n).elim
  ·have e:k=b:=by omega
   subst e;have d:Hid (aV c l k=true):=by show _=_;rw[f.out,RY,Tq,qE]
   go_wp2;go_ret;exact⟨aD d.out.symm,rfl⟩
def mM(s:ByteArray):Bool:=(s.toList == [36,61])||(s.toList == [36,46])
def ke:List Tk->List ByteArray
 | []=>[]
 | t :: r=>if mM t.s=true then [] else t.s :: ke r
def bu(T:List Tk)(h:Nat):List ByteArray:=ke (T.drop h)
def cU(T:List Tk)(h:Nat):Prop:=∃e,h<=e/\e<T.length/\mM (tS T e)=true
theorem Ge(h:S<w.length):w.drop S=w.getD S jf :: w.drop (S+1):=by
 rw[Rf h,QQ,QP h];rfl
theorem Hh(L:List Tk):(ke L).length<=L.length:=by
 induction L with
 | nil=>exact QR _
 | cons t r a=>rw[ke];split <;> simp <;> omega
theorem kg:(bu w S).length<=w.length:=by
 have:=Hh (w.drop S);rw[RT]at this;unfold bu;omega
structure vj(w wr:World)(h:Hd)(O:List ByteArray):Prop where
 own:aw wr h (aB O)
 far:∀k,h.blk=some k->w.heap.size<=k
 kept:ab [] w wr
theorem vj.nil:vj T T ⟨none,0⟩ []:=⟨QZ _ _ _ _,(by intro k a;cases a),ab.refl _ _⟩
theorem vj.Vb(a:vj k M z4 zb)(b:ab [] M zt):vj k zt z4 zb:=⟨a.own.Vb b,a.far,a.kept.trans b⟩
theorem vj.Vl{f:List ByteArray}(a:vj k M z4 zb)(g:bt M zt z4 z6)(o:aw zt z6 (aB f)):vj k zt z6 f:=by
 refine⟨o,fun c b=>?_,⟨g.kept.os.trans a.kept.os,g.kept.tape.trans a.kept.tape,g.kept.output.trans a.kept.output,Q3 a.kept.size g.kept.size,fun c b _=>?_⟩⟩
 ·rcases g.blk with e | ⟨q,e,d⟩
  ·exact a.far c (by rw[<-e];exact b)
  ·rw[e]at b;cases b
   exact Q3 a.kept.size d
 ·rw[g.kept.block c (QX b a.kept.size) (fun d=>by have:=a.far _ (aN d);omega),a.kept.block c b (by simp)]
theorem pq{g:Array Oper}{b:List Oper}{o:Oper}{a:Act}{Q:Exit->Act->World->Prop}(D:o.guard=none)(s x:Operand)(p:o.op=Op.call { callee:=Callee.builtin Builtin.append,args:=#[s,x],argTypes:=#[61,61] })(h:Hd)(L:List ByteArray)(t:ByteArray)(z:a.eval s=.slice h.ao L.length h.cap)(c:aw T h (aB L))(H:L.length<=1000000)(G:a.eval x=.slice (some ⟨T.heap.size,0,none⟩) 1 1)(E:∀i m,aw m i (aB (L++[t]))->bt T m h i->wpList prog g Q b (a.put o.dst (.slice i.ao (L.length+1) i.cap)) m) :
  wpList prog g Q (o :: b) a (T.alloc (.cells #[.string t] 9)):=by
 obtain⟨F,A,q,l,n⟩:=Re js;have r:ab [] T (T.alloc (.cells #[.string t] 9)):=(ab.refl [] _).alloc _;have B:(T.alloc (.cells #[.string t] 9)).heap[T.heap.size]?=some (.cells #[.string t] 9 (0,0)):=QS _ _;refine aM _ D s x 61 p F (.string ⟨#[]⟩) 16 h (aB L) underlying61 A q l n rfl Rc z (c.Vb r) ⟨T.heap.size,0,none⟩ 1 1 [.string t] G rfl ?_ ?_ Rc (by simp only[aB];unfold maxLen;omega) (by simp only[aB];omega) ?_
 ·intro j u C
  rw[bL,aa B];simpa using C
 ·intro u v
  rw[Q9.1 v];rfl
 ·intro w d y f e k
  rw[dr]at f;exact E ⟨some ⟨w,0,none⟩,d⟩ y f ((bt.Vb r).trans (bt.made e k))
theorem kD(d:List Sm)(D:Option Addr)(W:Nat)(z:World)(u:fz z l w i S d D W)(hj:b<d.length)(hT:w.length<=100000)(Y:cU w d[b].h) :
  Calls prog 72 #[.pointer (some ⟨l,0,none⟩),.int .i64 b] z fun e N=>∃a,e=.returned (.slice a.ao (bu w d[b].h).length a.cap)/\vj z N a (bu w d[b].h):=by
 obtain⟨gS,rfl,ac,-,-,H,-⟩:=u.s.2 b d[b] (QP hj);generalize d[b].h=c at *;obtain⟨e,e1,U,Q⟩:=Y;obtain⟨X,rfl,M,-⟩:=u.t.2 e _ (iw w e U);have HD:=hI u;obtain⟨G,Z,hb⟩:=u.cells;have ag:(b:Int)<(d.length:Int):=by omega
 have T:=hI (vj.nil z);clear u;go_enter func72,ntmps72;go_wp2;clear G Z H
 go_loopg [5,6] (w.length-c) (fun g o af wr=>∃(k:Nat) (a:Hd) (O:List ByteArray),(c<=k/\k<=e)/\g=w.length-k/\o=.slice a.ao O.length a.cap/\af=.int .i64 k/\O.length<=k/\Hid (O++ke (w.drop k)=bu w c)/\Hid (vj z wr a O))
 case atStart=>exact⟨c,⟨none,0⟩,[],⟨by omega,by omega⟩,rfl,rfl,rfl,Ro _,rfl,T⟩
 case round =>
  obtain⟨k,a,O,⟨L,I⟩,hg,rfl,rfl,hO,f,r⟩:=hrel;have p:k<w.length:=by omega
  have m:=hI (fz.Vb HD.out r.out.kept);obtain⟨G,-,J⟩:=m.out.cells;obtain⟨K,R,V,B,-⟩:=m.out.t.2 k _ (iw w k p)
  cases R
  replace B:wr.cell? ⟨X,k*5,none⟩=some (.string (tS w k)):=B;have ai:(k:Int)<(w.length:Int):=by omega
  have HN:=hI (Ge w k p);rw[HN.out,ke]at f;have f:Hid (O++(if mM (tS w k)=true then [] else tS w k :: ke (w.drop (k+1)))=bu w c):=f.out;have q:Hid (k=e->mM (tS w k)=true):=fun h=>by rw[h];exact Q
  obtain⟨x,P⟩:∃x,Hid (tS w k=x):=⟨_,rfl⟩
  rw[P.out]at B f q;have A:=r.out.own;obtain⟨n,Hn⟩:∃n,Hid (w.length=n):=⟨_,rfl⟩
  cases C:(x.toList == [36,61])
  ·cases E:(x.toList == [36,46])
   ·have ad:k<e:=by
     have:¬k=e:=fun h=>by have:=q.out h;unfold mM at this;rw[C,E]at this;cases this
     omega
    have j:Hid ((O++[x])++ke (w.drop (k+1))=bu w c):=by
     have:=f.out;rw[QT (by unfold mM;rw[C,E];simp)]at this
     show _=_
     rw[<-this];simp
    go_wp2_with (at_builtin;refine pq _ rfl (.tmp 37) (.tmp 46) rfl a O x rfl A (by omega) rfl ?_;intro h5 w5 y v;have F:=hI (r.out.Vl v y);clear y v)
    go_roundg (w.length-(k+1))
    case measure=>omega
    case rel=>exact⟨k+1,h5,O++[x],⟨by omega,by omega⟩,rfl,by simp,by go_num,by simp;omega,j,F⟩
   ·have j:Hid (bu w c=O):=by
     have:=f.out;rw[QW (by unfold mM;rw[E];simp)]at this
     show _=_
     rw[<-this];simp
    go_wp2;go_ret;exact⟨a,by rw[j.out];rfl,by rw[j.out];exact r.out⟩
  ·have j:Hid (bu w c=O):=by
    have:=f.out;rw[QW (by unfold mM;rw[C];simp)]at this
    show _=_
    rw[<-this];simp
   go_wp2;go_ret;exact⟨a,by rw[j.out];rfl,by rw[j.out];exact r.out⟩
def bG(T:List Tk)(s:Sm):ByteArray:=if(aC s.k||aG s.k)=true then tS T s.a else⟨#[]⟩
theorem nQ(d:List Sm)(r:Option Addr)(D:Nat)(g:World)(n:fz g l w i S d r D)(I:b<d.length)(y:d[b].a<w.length) :
  Calls prog 87 #[.pointer (some ⟨l,0,none⟩),.int .i64 b] g fun e A=>e=.returned (.string (bG w d[b]))/\ab [] g A:=by
 obtain⟨P,rfl,H,C,-,-,G⟩:=n.s.2 b d[b] (QP I);obtain⟨E,rfl,z,o,-⟩:=n.t.2 d[b].a _ (iw w _ y);have j:Hid (bG w d[b]=if(aC d[b].k||aG d[b].k)=true then tS w d[b].a else⟨#[]⟩):=rfl;replace o:g.cell? ⟨E,d[b].a*5,none⟩=some (.string (tS w d[b].a)):=o;generalize bG w d[b]=R at *;generalize d[b]=s at *;obtain⟨p,N,K,f⟩:=s;simp only at C G o j y;obtain⟨x,B⟩:∃x,Hid (tS w p=x):=⟨_,rfl⟩
 rw[B.out]at o j;obtain⟨L,O,M⟩:=n.cells;have J:(b:Int)<(d.length:Int):=by omega
 have F:(p:Int)<(w.length:Int):=by omega
 have v:(0:Int)<=(p:Int):=by omega
 clear n
 cases q:aC f
 ·cases u:aG f
  ·have m:Hid (R=⟨#[]⟩):=by show _=_;rw[j.out,q,u];rfl
   go_enter func87,ntmps87;go_wp2_with (first | (go_at_call 122;refine(fT f _).mono ?_;rintro e h ⟨rfl,c⟩;rw[c];clear c) | (go_at_call 123;refine(lJ f _).mono ?_;rintro e h ⟨rfl,c⟩;rw[c];clear c));go_ret;exact⟨by rw[m.out];rfl,ab.refl _ _⟩
  ·have m:Hid (R=x):=by show _=_;rw[j.out,q,u];rfl
   go_enter func87,ntmps87
   go_upto_region 4 with (first | (go_at_call 122;refine(fT f _).mono ?_;rintro e h ⟨rfl,c⟩;rw[c];clear c) | (go_at_call 123;refine(lJ f _).mono ?_;rintro e h ⟨rfl,c⟩;rw[c];clear c))
   go_region
   all_goals
    go_wp2;go_ret;exact⟨by rw[m.out];rfl,(ab.refl [] g).drew⟩
 ·have m:Hid (R=x):=by show _=_;rw[j.out,q];rfl
  go_enter func87,ntmps87
  go_upto_region 4 with (first | (go_at_call 122;refine(fT f _).mono ?_;rintro e h ⟨rfl,c⟩;rw[c];clear c) | (go_at_call 123;refine(lJ f _).mono ?_;rintro e h ⟨rfl,c⟩;rw[c];clear c))
  go_region
  all_goals
   go_wp2;go_ret;exact⟨by rw[m.out];rfl,(ab.refl [] g).drew⟩
def QM:Sm:=⟨0,0,0,⟨#[]⟩⟩
def au(S:List Sm)(j:Nat):Sm:=S.getD j QM
theorem bM(S:List Sm)(j:Nat)(h:j<S.length):S[j]'h=au S j:=by
 unfold au;rw[QQ,QP h];rfl
def pG(T:List Tk)(S:List Sm)(key x:ByteArray)(n:Nat)(act:Bool)(j:Nat):Bool:=((au S j).k.toList==key.toList)&&(aJ (bu T (au S j).h) x&&(aV S j n || !act))
def jq(T:List Tk)(S:List Sm)(key x:ByteArray)(n:Nat)(act:Bool):Bool:=(List.range n).any (pG T S key x n act)
theorem dU{p:Nat->Bool}(h:∀j,j<v->p j=false)(a:p v=false):∀j,j<v+1->p j=false:=fun j b=>by
 by_cases e:j=v
 ·rw[e];exact a
 ·exact h j (by omega)
theorem oq(c:Bool)(T:List Tk)(q:Option Addr)(Q:Nat)(S:List Sm)(J:Option Addr)(L:Nat)(w:World)(W:fz w a T q Q S J L)(hn:l<=S.length)(hS:S.length<=100000)(hT:T.length<=100000)(hE:∀j,j<l->((au S j).k.toList==H.toList)=true->cU T (au S j).h) :
  Calls prog 212 #[.pointer (some ⟨a,0,none⟩),.string H,.string n,.int .i64 l,.bool c] w fun e z=>e=.returned (.bool (jq T S H n l c))/\ab [] w z:=by
 have P:=hI W;clear W;go_enter func212,ntmps212;go_wp2
 go_loopg [11] l (fun g i wr=>∃k:Nat,k<=l/\g=l-k/\i=.int .i64 k/\Hid (∀j,j<k->pG T S H n l c j=false)/\Hid (ab [] w wr))
 case atStart=>exact⟨0,by omega,rfl,rfl,(fun j hj=>by omega),ab.refl _ _⟩
 case round =>
  obtain⟨k,hk,hg,rfl,F,A⟩:=hrel
  by_cases t:k<l
  ·have p:k<S.length:=by omega
   have y:=hI (fz.Vb P.out A.out);obtain⟨-,c1,hb⟩:=y.out.cells;obtain⟨gs,rfl,Z,-,-,-,q3⟩:=y.out.s.2 k S[k] (QP p);have ag:(k:Int)<(l:Int):=by omega
   have Y:(k:Int)<(S.length:Int):=by omega
   have r:Hid (pG T S H n l c k=((S[k].k.toList==H.toList)&&(aJ (bu T S[k].h) n&&(aV S k l || !c)))):=by show _=_;unfold pG;rw[bM S k p]
   have D:Hid ((S[k].k.toList==H.toList)=true->cU T S[k].h):=by have:=hE k t;rw[<-bM S k p]at this;exact this
   have I:Hid ((S[k].k.toList==H.toList)=true->∀m,ab [] w m->Calls prog 72 #[.pointer (some ⟨a,0,none⟩),.int .i64 k] m fun e z=>∃R,e=.returned (.slice R.ao (bu T S[k].h).length R.cap)/\vj m z R (bu T S[k].h)):=fun h m O=>kD a k T q Q S _ L m (fz.Vb P.out O) p hT (D.out h)
   have af:=kg T S[k].h;have C:Hid (∀m,ab [] w m->Calls prog 92 #[.pointer (some ⟨a,0,none⟩),.int .i64 k,.int .i64 l] m fun e z=>e=.returned (.bool (aV S k l))/\z=m):=fun m O=>lk a k l T q Q S _ L m (fz.Vb P.out O) (by omega) hn hS
   clear D;generalize bu T S[k].h=B at *;generalize S[k].k=sk at *;obtain⟨U,G⟩:∃U,Hid (aV S k l=U):=⟨_,rfl⟩
   rw[G.out]at r C
   cases v:(sk.toList==H.toList)
   ·have o:=hI (dU F.out (by rw[r.out,v];rfl))
    go_wp2
    go_roundg (l-(k+1))
    case measure=>omega
    case rel=>exact⟨k+1,by omega,rfl,by go_num,o,A⟩
   ·have M:=hI (I.out v)
    go_upto_region 6 with (go_at_call 72;refine(M.out _ (by exact A.out)).mono ?_;rintro e X ⟨V,rfl,E⟩)
    have ad:=hI E;have f:=hI (A.out.trans E.kept);have d:=hI (j9 B V.ao V.cap n X E.own.srcX (by omega));clear E c1 q3;obtain⟨N,K⟩:∃N,Hid (aJ B n=N):=⟨_,rfl⟩
    rw[K.out]at d r
    cases N
    ·have o:=hI (dU F.out (by rw[r.out,v];rfl))
     go_wp2_with (go_at_call 93;refine QU d.out ?_;rintro e x ⟨rfl,b⟩;rw[b];clear b)
     go_roundg (l-(k+1))
     case measure=>omega
     case rel=>exact⟨k+1,by omega,rfl,by go_num,o,f⟩
    ·have u:=hI (C.out X f.out)
     cases U
     ·cases c
      ·have o:Hid (jq T S H n l false=true):=mZ k t (by rw[r.out,v];rfl)
       go_wp2_with (first | (go_at_call 93;refine QU d.out ?_;rintro e x ⟨rfl,b⟩;rw[b];clear b) | (go_at_call 92;refine QU u.out ?_;rintro e x ⟨rfl,b⟩;rw[b];clear b));go_ret;exact⟨aD o.out.symm,f.out⟩
      ·have o:=hI (dU F.out (by rw[r.out,v];rfl))
       go_wp2_with (first | (go_at_call 93;refine QU d.out ?_;rintro e x ⟨rfl,b⟩;rw[b];clear b) | (go_at_call 92;refine QU u.out ?_;rintro e x ⟨rfl,b⟩;rw[b];clear b))
       go_roundg (l-(k+1))
       case measure=>omega
       case rel=>exact⟨k+1,by omega,rfl,by go_num,o,f⟩
     ·have o:Hid (jq T S H n l c=true):=mZ k t (by rw[r.out,v];simp)
      go_wp2_with (first | (go_at_call 93;refine QU d.out ?_;rintro e x ⟨rfl,b⟩;rw[b];clear b) | (go_at_call 92;refine QU u.out ?_;rintro e x ⟨rfl,b⟩;rw[b];clear b));go_ret;exact⟨aD o.out.symm,f.out⟩
  ·have o:Hid (jq T S H n l c=false):=vH (fun j hj=>F.out j (by omega))
   go_wp2;go_ret;exact⟨aD o.out.symm,A.out⟩
def vi(T:List Tk)(S:List Sm)(n:Nat)(key:List UInt8):Prop:=∀j,j<n->((au S j).k.toList==key)=true->cU T (au S j).h
theorem nR:(⟨#[36,99]⟩:ByteArray).toList=[36,99]/\(⟨#[36,118]⟩:ByteArray).toList=[36,118]:=by decide +kernel
def eF(T:List Tk)(S:List Sm)(x:ByteArray)(n:Nat):Bool:=jq T S ⟨#[36,99]⟩ x n false
def kZ(T:List Tk)(S:List Sm)(x:ByteArray)(n:Nat):Bool:=jq T S ⟨#[36,118]⟩ x n true
theorem tM(b:List Sm)(c:Option Addr)(f:Nat)(d:World)(j:fz d a w i S b c f)(k:l<=b.length)(p:b.length<=100000)(h:w.length<=100000)(g:vi w b l [36,99]) :
  Calls prog 172 #[.pointer (some ⟨a,0,none⟩),.string H,.int .i64 l] d fun e n=>e=.returned (.bool (eF w b H l))/\ab [] d n:=by
 have m:=hI (oq a l ⟨#[36,99]⟩ H false w i S b c f d j k p h (by rw[nR.1];exact g));go_enter func172,ntmps172;go_wp2_with fail;refine QU m.out ?_;rintro e q ⟨rfl,o⟩;go_wp2;go_ret;exact⟨rfl,o⟩
theorem AJ(b:List Sm)(c:Option Addr)(f:Nat)(d:World)(j:fz d a w i S b c f)(k:l<=b.length)(p:b.length<=100000)(h:w.length<=100000)(g:vi w b l [36,118]) :
  Calls prog 173 #[.pointer (some ⟨a,0,none⟩),.string H,.int .i64 l] d fun e n=>e=.returned (.bool (kZ w b H l))/\ab [] d n:=by
 have m:=hI (oq a l ⟨#[36,118]⟩ H true w i S b c f d j k p h (by rw[nR.2];exact g));go_enter func173,ntmps173;go_wp2_with fail;refine QU m.out ?_;rintro e q ⟨rfl,o⟩;go_wp2;go_ret;exact⟨rfl,o⟩
def qL(T:List Tk)(S:List Sm)(x:ByteArray)(j:Nat):Bool:=!((bG T (au S j)).toList == [])&&((bG T (au S j)).toList==x.toList)
def bE(T:List Tk)(S:List Sm)(x:ByteArray)(n:Nat):Int:=match (List.range n).find? (qL T S x) with
 | some j=>j
 | none=>-1
theorem Af{S:List Sm}(a:z0<v)(h:qL d S D z0=true)(c:∀j,j<z0->qL d S D j=false):bE d S D v=z0:=by
 have e:(List.range v).find? (qL d S D)=some z0:=by
  rw[Sj];exact⟨h,Ra.2 a,fun j b=>by rw[c j b];rfl⟩
 unfold bE;rw[e]
theorem Ci{S:List Sm}(b:∀j,j<v->qL d S D j=false):bE d S D v=-1:=by
 have e:(List.range v).find? (qL d S D)=none:=by
  rw[Sk];intro j a;rw[b j (Ra.1 a)];simp
 unfold bE;rw[e]
theorem oC(b:List Sm)(m:Option Addr)(v:Nat)(q:World)(x:fz q a w i S b m v)(I:l<=b.length)(G:b.length<=100000)(E:∀j,j<l->(au b j).a<w.length) :
  Calls prog 171 #[.pointer (some ⟨a,0,none⟩),.string H,.int .i64 l] q fun e A=>e=.returned (.int .i64 (bE w b H l))/\ab [] q A:=by
 have B:=hI x;clear x;go_enter func171,ntmps171;go_wp2
 go_loopg [7] l (fun g C wr=>∃k:Nat,k<=l/\g=l-k/\C=.int .i64 k/\Hid (∀j,j<k->qL w b H j=false)/\Hid (ab [] q wr))
 case atStart=>exact⟨0,by omega,rfl,rfl,(fun j D=>by omega),ab.refl _ _⟩
 case round =>
  obtain⟨k,J,K,rfl,r,p⟩:=hrel
  by_cases o:k<l
  ·have d:k<b.length:=by omega
   have F:(k:Int)<(l:Int):=by omega
   have s:Hid (qL w b H k=(!((bG w b[k]).toList == [])&&((bG w b[k]).toList==H.toList))):=by show _=_;unfold qL;rw[bM b k d]
   have h:=hI (nQ a k w i S b m v wr (fz.Vb B.out p.out) d (by rw[bM b k d];exact E k o));generalize bG w b[k]=z at *
   cases t:(z.toList == [])
   ·cases u:(z.toList==H.toList)
    ·have f:=hI (dU r.out (by rw[s.out,u];simp))
     go_wp2_with (go_at_call 87;refine QU h.out ?_;rintro e y ⟨rfl,n⟩;have c:=hI (p.out.trans n))
     go_roundg (l-(k+1))
     case measure=>omega
     case rel=>exact⟨k+1,by omega,rfl,by go_num,f,c⟩
    ·have f:Hid (bE w b H l=k):=Af o (by rw[s.out,t,u];rfl) r.out
     go_wp2_with (go_at_call 87;refine QU h.out ?_;rintro e y ⟨rfl,n⟩;have c:=hI (p.out.trans n));go_ret;exact⟨QN f.out.symm,c.out⟩
   ·have f:=hI (dU r.out (by rw[s.out,t];rfl))
    go_wp2_with (go_at_call 87;refine QU h.out ?_;rintro e y ⟨rfl,n⟩;have c:=hI (p.out.trans n))
    go_roundg (l-(k+1))
    case measure=>omega
    case rel=>exact⟨k+1,by omega,rfl,by go_num,f,c⟩
  ·have f:Hid (bE w b H l=-1):=Ci (fun j D=>r.out j (by omega))
   go_wp2;go_ret;exact⟨QN f.out.symm,p.out⟩
structure il(T:List Tk)(S:List Sm)(n:Nat):Prop where
 m:n<=S.length
 s:S.length<=100000
 t:T.length<=100000
 c:vi T S n [36,99]
 v:vi T S n [36,118]
 a:∀j,j<n->(au S j).a<T.length
def jC(T:List Tk)(S:List Sm)(x:ByteArray)(n:Nat):Bool:=decide (0<=bE T S x n)||(eF T S x n||jq T S ⟨#[36,118]⟩ x n false)
theorem xq(b:List Sm)(g:Option Addr)(o:Nat)(h:World)(p:fz h a w i S b g o)(d:il w b l) :
  Calls prog 170 #[.pointer (some ⟨a,0,none⟩),.string H,.int .i64 l] h fun e j=>e=.returned (.bool (jC w b H l))/\ab [] h j:=by
 have F:=hI (oC a l H w i S b g o h p d.m d.s d.a);have q:Hid (∀f,ab [] h f->Calls prog 172 #[.pointer (some ⟨a,0,none⟩),.string H,.int .i64 l] f fun e j=>e=.returned (.bool (eF w b H l))/\ab [] f j):=fun f k=>tM a l H w i S b g o f (p.Vb k) d.m d.s d.t d.c
 have u:Hid (∀f,ab [] h f->Calls prog 212 #[.pointer (some ⟨a,0,none⟩),.string ⟨#[36,118]⟩,.string H,.int .i64 l,.bool false] f fun e j=>e=.returned (.bool (jq w b ⟨#[36,118]⟩ H l false))/\ab [] f j):=fun f k=>oq a l ⟨#[36,118]⟩ H false w i S b g o f (p.Vb k) d.m d.s d.t (by rw[nR.2];exact d.v)
 have y:Hid (jC w b H l=(decide (0<=bE w b H l)||(eF w b H l||jq w b ⟨#[36,118]⟩ H l false))):=rfl;generalize jC w b H l=R at *;generalize bE w b H l=E at *;generalize eF w b H l=c at *;generalize jq w b ⟨#[36,118]⟩ H l false=v at *;clear p;go_enter func170,ntmps170
 go_upto_region 2 with (go_at_call 171;refine QU F.out ?_;rintro e B ⟨rfl,r⟩)
 have q:=hI (q.out B r)
 go_upto_region 3 with (go_at_call 172;refine QU q.out ?_;rintro e C ⟨rfl,z⟩)
 have u:=hI (u.out C (r.trans z))
 go_upto_region 4 with (go_at_call 212;refine QU u.out ?_;rintro e G ⟨rfl,D⟩)
 have x:=(show Hid _ from(r.trans z).trans D)
 by_cases A:0<=E
 ·have n:Hid (R=true):=by show _=_;rw[y.out];simp[A]
  go_wp2;go_ret;exact⟨aD n.out.symm,x.out⟩
 ·cases c
  ·have n:Hid (R=v):=by show _=_;rw[y.out];simp[A]
   go_wp2;go_ret;exact⟨aD n.out.symm,x.out⟩
  ·have n:Hid (R=true):=by show _=_;rw[y.out];simp
   go_wp2;go_ret;exact⟨aD n.out.symm,x.out⟩
def jW(T:List Tk)(S:List Sm)(x:ByteArray)(n:Nat)(con:Bool)(before:List ByteArray):Int :=
 if aJ before x=true then 13 else if(con&&jC T S x n)=true then 13 else if(!con&&(decide (0<=bE T S x n)||(eF T S x n||kZ T S x n)))=true then 13 else 0
theorem IU(g:Bool)(d:List ByteArray)(r:Option Addr)(L:Nat)(T:List Tk)(j:Option Addr)(C:Nat)(S:List Sm)(o:Option Addr)(A:Nat)(w:World)(B:fz w b T j C S o A)(i:il T S x)(Q:ge w r d)(N:d.length<=1000000) :
  Calls prog 125 #[.pointer (some ⟨b,0,none⟩),.string n,.int .i64 x,.bool g,.slice r d.length L] w fun e p=>e=.returned (.int .i64 (jW T S n x g d))/\ab [] w p:=by
 have K:=hI (j9 d r L n w Q (by omega));have M:=hI (xq b x n T j C S o A w B i);have E:Hid (∀f,ab [] w f->Calls prog 171 #[.pointer (some ⟨b,0,none⟩),.string n,.int .i64 x] f fun e p=>e=.returned (.int .i64 (bE T S n x))/\ab [] f p):=fun f k=>oC b x n T j C S o A f (B.Vb k) i.m i.s i.a
 have G:Hid (∀f,ab [] w f->Calls prog 172 #[.pointer (some ⟨b,0,none⟩),.string n,.int .i64 x] f fun e p=>e=.returned (.bool (eF T S n x))/\ab [] f p):=fun f k=>tM b x n T j C S o A f (B.Vb k) i.m i.s i.t i.c
 have D:Hid (∀f,ab [] w f->Calls prog 173 #[.pointer (some ⟨b,0,none⟩),.string n,.int .i64 x] f fun e p=>e=.returned (.bool (kZ T S n x))/\ab [] f p):=fun f k=>AJ b x n T j C S o A f (B.Vb k) i.m i.s i.t i.v
 have u:Hid (jW T S n x g d=if aJ d n=true then 13 else if(g&&jC T S n x)=true then 13 else if(!g&&(decide (0<=bE T S n x)||(eF T S n x||kZ T S n x)))=true then 13 else 0):=rfl;generalize jW T S n x g d=R at *;generalize aJ d n=P at *;generalize jC T S n x=U at *;generalize bE T S n x=l at *;generalize eF T S n x=c at *;generalize kZ T S n x=v at *;clear B;go_enter func125,ntmps125
 go_upto_region 2 with (go_at_call 93;refine QU K.out ?_;rintro e X ⟨rfl,z⟩;rw[z];clear z)
 go_upto_region 3 with (go_at_call 170;refine QU M.out ?_;rintro e V ⟨rfl,y⟩)
 have E:=hI (E.out V y)
 go_upto_region 4 with (go_at_call 171;refine QU E.out ?_;rintro e W ⟨rfl,F⟩)
 have G:=hI (G.out W (y.trans F))
 go_upto_region 5 with (go_at_call 172;refine QU G.out ?_;rintro e O ⟨rfl,H⟩)
 have D:=hI (D.out O ((y.trans F).trans H))
 go_upto_region 6 with (go_at_call 173;refine QU D.out ?_;rintro e Y ⟨rfl,I⟩)
 have q:=(show Hid _ from((y.trans F).trans H).trans I);clear K M E G D y F H I
 cases P
 ·cases g
  ·by_cases J:0<=l
   ·have h:Hid (R=13):=by show _=_;rw[u.out];simp[J]
    go_wp2;go_ret;exact⟨QN h.out.symm,q.out⟩
   ·cases c
    ·cases v
     ·have h:Hid (R=0):=by show _=_;rw[u.out];simp[J]
      go_wp2;go_ret;exact⟨QN h.out.symm,q.out⟩
     ·have h:Hid (R=13):=by show _=_;rw[u.out];simp
      go_wp2;go_ret;exact⟨QN h.out.symm,q.out⟩
    ·have h:Hid (R=13):=by show _=_;rw[u.out];simp
     go_wp2;go_ret;exact⟨QN h.out.symm,q.out⟩
  ·cases U
   ·have h:Hid (R=0):=by show _=_;rw[u.out];simp
    go_wp2;go_ret;exact⟨QN h.out.symm,q.out⟩
   ·have h:Hid (R=13):=by show _=_;rw[u.out];simp
    go_wp2;go_ret;exact⟨QN h.out.symm,q.out⟩
 ·have h:Hid (R=13):=by show _=_;rw[u.out];simp
  go_wp2;go_ret;exact⟨QN h.out.symm,q.out⟩
def ip(key:ByteArray)(before:List ByteArray):Int :=
 if before.length=0 then 15 else if(((key.toList == [36,100])||(key.toList == [36,102]))&&decide (before.length<2))=true then 15 else if((key.toList == [36,112]) && !(aJ before ⟨#[36,61]⟩))=true then 23 else 0
theorem Bn(l:ge T i y)(o:y.length<=1000000) :
  Calls prog 124 #[.string H,.slice i y.length x] T fun e p=>e=.returned (.int .i64 (ip H y))/\p=T:=by
 have m:=hI (j9 y i x ⟨#[36,61]⟩ T l (by omega));have c:Hid (ip H y=if y.length=0 then 15 else if(((H.toList == [36,100])||(H.toList == [36,102]))&&decide (y.length<2))=true then 15 else if((H.toList == [36,112]) && !(aJ y ⟨#[36,61]⟩))=true then 23 else 0):=rfl;generalize ip H y=R at *;generalize aJ y ⟨#[36,61]⟩=k at *;generalize y.length=n at *;clear l
 by_cases b:n=0
 ·have s:Hid (R=15):=by show _=_;rw[c.out,QW b]
  subst b;go_enter func124,ntmps124;go_wp2_with (go_at_call 93;refine QU m.out ?_;rintro e q ⟨rfl,a⟩;rw[a];clear a);go_ret;exact⟨QN s.out.symm,rfl⟩
 ·rw[QT b]at c
  have r:((n:Int)==0)=false:=by simpa using b
  go_enter func124,ntmps124
  go_upto_region 3 with (go_at_call 93;refine QU m.out ?_;rintro e q ⟨rfl,a⟩;rw[a];clear a)
  by_cases j:n<2
  ·have d:(n:Int)<2:=by omega
   cases g:(H.toList == [36,100]) <;> cases f:(H.toList == [36,102]) <;> cases h:(H.toList == [36,112]) <;> cases k
   all_goals
    go_wp2;go_ret;exact⟨QN (by rw[c.out];simp[j,g,f,h]),rfl⟩
  ·have d:¬(n:Int)<2:=by omega
   cases g:(H.toList == [36,100]) <;> cases f:(H.toList == [36,102]) <;> cases h:(H.toList == [36,112]) <;> cases k
   all_goals
    go_wp2;go_ret;exact⟨QN (by rw[c.out];simp[j,g,f,h]),rfl⟩
theorem Ag(K:n.size<=1073741824) :
  Calls prog 169 #[.string n] T fun e C=>e=.returned (.bool (gG n))/\C=T:=by
 go_enter func169,ntmps169;go_wp2
 go_loopg [3] n.size (fun g i wr=>∃k:Nat,k<=n.size/\g=n.size-k/\i=.int .i64 k/\Hid (∀i,i<k->jA (aF n i)=true)/\wr=T)
 case atStart=>exact⟨0,by omega,by omega,rfl,fun i h=>by omega,rfl⟩
 case round =>
  obtain⟨k,L,M,rfl,b,rfl⟩:=hrel
  by_cases j:k<n.size
  ·have r:Hid (jA (n[k].toNat:Int)=false->gG n=false):=fun x=>DF k j (by rw[bP n k j];exact x)
   have q:Hid (jA (n[k].toNat:Int)=true->∀i,i<k+1->jA (aF n i)=true):=fun x i E=>by
    by_cases e:i=k
    ·subst e;rw[bP n i j];exact x
    ·exact b.out i (by omega)
   have J:(k:Int)<(n.size:Int):=by omega
   go_upto_region 5 with fail
   obtain⟨c,A⟩:∃c:Int,(n[k].toNat:Int)=c:=⟨_,rfl⟩
   have B:=hI A;clear A;rw[B.out]at r q ⊢
   go_cut [5] from 18 to 23 (fun F o=>F=.bool (decide (97<=c)&&decide (c<=122))/\o=wr)
   case first =>
    by_cases p:97<=c
    ·by_cases s:c<=122
     ·go_wp2_with fail
      go_meet
      case rel=>exact⟨by simp;omega,rfl⟩
     ·go_wp2_with fail
      go_meet
      case rel=>exact⟨by simp;omega,rfl⟩
    ·go_wp2_with fail
     go_meet
     case rel=>exact⟨by simp;omega,rfl⟩
   case rest =>
    obtain⟨rfl,a⟩:=hcut;subst a;obtain⟨v,l⟩:∃v,Hid ((decide (97<=c)&&decide (c<=122))=v):=⟨_,rfl⟩
    rw[l.out]
    go_upto_region 6 with fail
    go_cut [6] from 24 to 29 (fun D o=>D=.bool (decide (65<=c)&&decide (c<=90))/\o=wc)
    case first =>
     by_cases p:65<=c
     ·by_cases s:c<=90
      ·go_wp2_with fail
       go_meet
       case rel=>exact⟨by simp;omega,rfl⟩
      ·go_wp2_with fail
       go_meet
       case rel=>exact⟨by simp;omega,rfl⟩
     ·go_wp2_with fail
      go_meet
      case rel=>exact⟨by simp;omega,rfl⟩
    case rest =>
     obtain⟨rfl,a⟩:=hcut;subst a;obtain⟨w,m⟩:∃w,Hid ((decide (65<=c)&&decide (c<=90))=w):=⟨_,rfl⟩
     rw[m.out]
     go_upto_region 7 with fail
     go_cut [7] from 30 to 35 (fun H o=>H=.bool (decide (48<=c)&&decide (c<=57))/\o=wc)
     case first =>
      by_cases p:48<=c
      ·by_cases s:c<=57
       ·go_wp2_with fail
        go_meet
        case rel=>exact⟨by simp;omega,rfl⟩
       ·go_wp2_with fail
        go_meet
        case rel=>exact⟨by simp;omega,rfl⟩
      ·go_wp2_with fail
       go_meet
       case rel=>exact⟨by simp;omega,rfl⟩
     case rest =>
      obtain⟨rfl,a⟩:=hcut;subst a;obtain⟨t,f⟩:∃t,Hid ((decide (48<=c)&&decide (c<=57))=t):=⟨_,rfl⟩
      rw[f.out]
      go_upto_region 8 with fail
      go_cut [8] from 36 to 45 (fun I o=>I=.bool ((c==45)||(c==95)||(c==46))/\o=wc)
      case first =>
       cases p:(c==45)
       ·cases s:(c==95)
        ·go_wp2_with fail
         go_meet
         case rel=>exact⟨by rw[p,s];simp,rfl⟩
        ·go_wp2_with fail
         go_meet
         case rel=>exact⟨by rw[p,s];simp,rfl⟩
       ·go_wp2_with fail
        go_meet
        case rel=>exact⟨by rw[p];simp,rfl⟩
      case rest =>
       obtain⟨rfl,a⟩:=hcut;subst a;obtain⟨u,d⟩:∃u,Hid (((c==45)||(c==95)||(c==46))=u):=⟨_,rfl⟩
       rw[d.out];have z:Hid (jA c=(v||(w||(t||u)))):=by show _=_;rw[<-l.out,<-m.out,<-f.out,<-d.out];unfold jA;simp only[Bool.or_assoc]
       clear l m f d
       cases v <;> cases w <;> cases t <;> cases u
       ·have y:=hI (r.out (by rw[z.out];rfl))
        go_wp2;go_ret;exact⟨aD y.out.symm,rfl⟩
       all_goals
        have y:=hI (q.out (by rw[z.out];rfl));go_wp2
        go_roundg (n.size-(k+1))
        case measure=>omega
        case rel=>exact⟨k+1,by omega,rfl,by go_num,y,rfl⟩
  ·have G:Hid (gG n=true):=zC (fun i E=>b.out i (by omega))
   go_wp2;go_ret;exact⟨aD G.out.symm,rfl⟩
def dw(T:List Tk)(S:List Sm)(x:ByteArray)(n:Nat):Int :=
 if((x.toList == [36,123])||((x.toList == [36,118])||(x.toList == [36,100])))=true then 0
 else if((x.toList == [36,125])&&(bb S n==0))=true then 9
 else if(x.toList == [36,125])=true then 0
 else if((x.toList == [36,99])&&decide (0<bb S n))=true then 10
 else if(x.toList == [36,99])=true then 0
 else if(aC x||aG x)=true then 11
 else if ii x ⟨#[36]⟩=true then 8
 else if gG x=false then 12
 else if jC T S x n=true then 13 else 0
theorem Ea(j:List Sm)(p:Option Addr)(u:Nat)(q:World)(v:fz q a w i S j p u)(t:il w j l)(E:H.size<=1073741824) :
  Calls prog 121 #[.pointer (some ⟨a,0,none⟩),.string H,.int .i64 l] q fun e F=>e=.returned (.int .i64 (dw w j H l))/\ab [] q F:=by
 have C:=hI (DT a l w i S j p u q v t.m t.s);have x:=hI (xq a l H w i S j p u q v t)
 have g:Hid (dw w j H l=if((H.toList == [36,123])||((H.toList == [36,118])||(H.toList == [36,100])))=true then 0
  else if((H.toList == [36,125])&&(bb j l==0))=true then 9
  else if(H.toList == [36,125])=true then 0
  else if((H.toList == [36,99])&&decide (0<bb j l))=true then 10
  else if(H.toList == [36,99])=true then 0
  else if(aC H||aG H)=true then 11
  else if ii H ⟨#[36]⟩=true then 8
  else if gG H=false then 12
  else if jC w j H l=true then 13 else 0):=rfl
 generalize dw w j H l=R at *;generalize bb j l=y at *;generalize jC w j H l=I at *;clear v;go_enter func121,ntmps121
 go_upto_region 5 with (first | (go_at_call 168;refine QU C.out ?_;rintro e r ⟨rfl,b⟩;rw[b];clear b) | (go_at_call 120;refine(fF H _ _ (by omega) (by show 1<=_;omega)).mono ?_;rintro e r ⟨rfl,b⟩;rw[b];clear b) | (go_at_call 169;refine(Ag H _ E).mono ?_;rintro e r ⟨rfl,b⟩;rw[b];clear b) | (go_at_call 170;refine QU x.out ?_;rintro e L ⟨rfl,A⟩))
 go_upto_region 7 with (first | (go_at_call 122;refine(fT H _).mono ?_;rintro e r ⟨rfl,b⟩;rw[b];clear b) | (go_at_call 123;refine(lJ H _).mono ?_;rintro e r ⟨rfl,b⟩;rw[b];clear b))
 have f:=hI A;generalize aC H=D at *;generalize aG H=G at *;generalize ii H ⟨#[36]⟩=J at *;generalize gG H=K at *;clear C x A
 cases d:(H.toList == [36,123])
 ·cases h:(H.toList == [36,118])
  ·cases k:(H.toList == [36,100])
   ·cases n:(H.toList == [36,125])
    ·cases o:(H.toList == [36,99])
     ·cases D
      ·cases G
       ·cases J
        ·cases K
         ·have c:Hid (R=12):=by show _=_;rw[g.out];simp[d,h,k,n,o]
          go_wp2;go_ret;exact⟨QN c.out.symm,f.out⟩
         ·cases I
          ·have c:Hid (R=0):=by show _=_;rw[g.out];simp[d,h,k,n,o]
           go_wp2;go_ret;exact⟨QN c.out.symm,f.out⟩
          ·have c:Hid (R=13):=by show _=_;rw[g.out];simp[d,h,k,n,o]
           go_wp2;go_ret;exact⟨QN c.out.symm,f.out⟩
        ·have c:Hid (R=8):=by show _=_;rw[g.out];simp[d,h,k,n,o]
         go_wp2;go_ret;exact⟨QN c.out.symm,f.out⟩
       ·have c:Hid (R=11):=by show _=_;rw[g.out];simp[d,h,k,n,o]
        go_wp2;go_ret;exact⟨QN c.out.symm,f.out⟩
      ·have c:Hid (R=11):=by show _=_;rw[g.out];simp[d,h,k,n,o]
       go_wp2;go_ret;exact⟨QN c.out.symm,f.out⟩
     ·by_cases z:0<y
      ·have c:Hid (R=10):=by show _=_;rw[g.out];simp[d,h,k,n,o,z]
       go_wp2;go_ret;exact⟨QN c.out.symm,f.out⟩
      ·have c:Hid (R=0):=by show _=_;rw[g.out];simp[d,h,k,n,o,z]
       go_wp2;go_ret;exact⟨QN c.out.symm,f.out⟩
    ·cases B:(y==0)
     ·have c:Hid (R=0):=by show _=_;rw[g.out];simp[d,h,k,n,B]
      go_wp2;go_ret;exact⟨QN c.out.symm,f.out⟩
     ·have c:Hid (R=9):=by show _=_;rw[g.out];simp[d,h,k,n,B]
      go_wp2;go_ret;exact⟨QN c.out.symm,f.out⟩
   ·have c:Hid (R=0):=by show _=_;rw[g.out];simp[d,h,k]
    go_wp2;go_ret;exact⟨QN c.out.symm,f.out⟩
  ·have c:Hid (R=0):=by show _=_;rw[g.out];simp[d,h]
   go_wp2;go_ret;exact⟨QN c.out.symm,f.out⟩
 ·have c:Hid (R=0):=by show _=_;rw[g.out];simp[d]
  go_wp2;go_ret;exact⟨QN c.out.symm,f.out⟩
end Go.Proofs.YtpddjjabfbfifaaGreat
