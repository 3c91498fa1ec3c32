import Derived.Deep.RegionHeld3
import Derived.Deep.CutRange
import Derived.Test.YtpddjjabfbfifaaGreatG11
namespace Go.Proofs.YtpddjjabfbfifaaGreat
open Go.RowKit Tryz
set_option maxRecDepth 100000
set_option maxHeartbeats 40000000
variable{k M zt:World}{v z0 z5:Nat}{L:Fs}{N:List Bool}{z4 z6:Hd}{d I:List Tk}{z7:Nat->List Bool->List Tk->List Tk×List Bool}{o:Tk}{D:ByteArray}{g y0:Option Addr}{zb:List ByteArray}(a:Nat)(f:Fs)(l:Nat)(H:ByteArray)(y:List ByteArray)(b:Nat)(w:List Tk)(i:Option Addr)(x:Nat)(n:ByteArray)(T:World)(S:Nat)
def Kr(w:World)(gs:Nat)(sn:List Bool)(h:Hd)(out:List Tk)(R:List Tk×List Bool)(e:Ending)(w':World):Prop :=
 ∃h',e=.returned (.slice h'.ao R.1.length h'.cap)/\aw w' h' (ir R.1)/\jy w' gs R.2/\uY w w' gs h h'/\R.2.length=sn.length/\R.1.length+2000*aQ R.2<=out.length+2000*aQ sn/\aQ R.2<=aQ sn
structure Kh(w wr:World)(gf cap:Nat)(fs:Fs)(gs:Nat)(sn:List Bool)(h h':Hd)(O:List Tk)(gT capT:Nat)(T:List Tk):Prop where
 i:rg wr gf cap fs gs sn h' O
 r:uY w wr gs h h'
 t:aw wr ⟨some ⟨gT,0,none⟩,capT⟩ (ir T)
 b1:h'.blk≠some gT
 b2:gT≠gs
section
variable {w wr wr':World} {gf cap:Nat} {fs:Fs} {gs:Nat} {sn sn':List Bool} {h h' h'':Hd} {O O':List Tk} {gT capT:Nat} {T:List Tk}
theorem Kh.turn(a:Kh w wr gf cap fs gs sn h h' O gT capT T)(r:uY wr wr' gs h' h'')(o:aw wr' h'' (ir O'))(s:jy wr' gs sn'):Kh w wr' gf cap fs gs sn' h h'' O' gT capT T:=by
 have d:gT<wr.heap.size:=a.t.lt rfl;refine⟨a.i.turn r o s,a.r.trans r,a.t.Vg (fun q c=>r.kept.block q (a.t.lt c) (fun b=>?_)),?_,a.b2⟩
 ·have e:q=gT:=by cases c;rfl
  subst e
  rcases Rj.1 b with e | b
  ·exact a.b2 e
  ·exact a.b1 (aN b)
 ·rcases r.blk with e | ⟨g,e,f⟩
  ·rw[e];exact a.b1
  ·rw[e];intro q;cases q;omega
theorem Kh.Vl(a:Kh w wr gf cap fs gs sn h h' O gT capT T)(g:bt wr wr' h' h'')(o:aw wr' h'' (ir O')):Kh w wr' gf cap fs gs sn h h'' O' gT capT T :=
 a.turn (uY.of g) o (a.i.seen.kept g.kept (fun b=>a.i.a1 (aN b)))
theorem Kh.Vb(a:Kh w wr gf cap fs gs sn h h' O gT capT T)(k:ab [] wr wr'):Kh w wr' gf cap fs gs sn h h' O gT capT T :=
 a.Vl (bt.Vb k) (a.i.own.Vb k)
end
theorem oM{b:List Bool}{h c:Nat}{T:List Tk}{R:List Tk×List Bool}(a:Kh k M v z0 L z5 b z4 z6 I h c T)(e:R=(I,b))(f:b.length=N.length)(j:I.length+2000*aQ b<=d.length+2000*aQ N)(l:aQ b<=aQ N){m:Nat}(g:m=I.length):Kr k z5 N z4 d R (.returned (.slice z6.ao m z6.cap)) M:=by
 subst e;subst g;exact⟨z6,rfl,a.i.own,a.i.seen,a.r,f,j,l⟩
theorem yZ(h:((o.rule==0)&&(o.s.toList == []))=true):cv z7 L (o :: d) N I=((if dg I=true then I else I++[qO o 7]),N):=by
 rw[cv.eq_def];simp only;rw[QW h]
theorem E1(h:((o.rule==0)&&(o.s.toList == []))=false)(a:(o.s.toList == [36,91])=false):cv z7 L (o :: d) N I=cv z7 L d N (I++[o]):=by
 rw[cv.eq_def];simp only;rw[QT (by rw[h];simp),QW a]
theorem Jr(h:((o.rule==0)&&(o.s.toList == []))=false)(b:(o.s.toList == [36,91])=true)(a:dg I=false):cv z7 L (o :: d) N I=(I++[qO o 4],N):=by
 rw[cv.eq_def];simp only;rw[QT (by rw[h];simp),QT (by rw[b];simp),QW a]
theorem CP{a:Tk}(h:((o.rule==0)&&(o.s.toList == []))=false)(e:(o.s.toList == [36,91])=true)(c:dg I=true)(f:(dm L a.s a.rule==0)=false):cv z7 L (o :: a :: d) N I=(I++[qO a (dm L a.s a.rule)],N):=by
 rw[cv.eq_def];simp only;rw[QT (by rw[h];simp),QT (by rw[e];simp),QT (by rw[c];simp)]
 cases d with
 | nil=>rfl
 | cons b d=>simp only;rw[QW f]
theorem Jq{rec:Nat->List Bool->List Tk->List Tk×List Bool}{fs:Fs}{t a b:Tk}{r:List Tk}{sn:List Bool}(h:((t.rule==0)&&(t.s.toList == []))=false)(e:(t.s.toList == [36,91])=true)(c:dg d=true)(f:(dm fs a.s a.rule==0)=true):cv rec fs (t :: a :: b :: r) sn d =
  if(dI b.s b.rule==0)=false then(d++[qO b (dI b.s b.rule)],sn)
  else if sn.getD (bF fs a.s).toNat true=true then cv rec fs r sn d
  else if eu (rec (bF fs a.s).toNat sn d).1=true then rec (bF fs a.s).toNat sn d
  else cv rec fs r (rec (bF fs a.s).toNat sn d).2 (rec (bF fs a.s).toNat sn d).1:=by
 rw[cv.eq_def];simp only;rw[QT (by rw[h];simp),QT (by rw[e];simp),QT (by rw[c];simp),QT (by rw[f];simp)]
theorem BC(a:Fs)(i:Nat):du n a i<(i:Int)+a.length∨a.length=0:=by
 induction a generalizing i with
 | nil=>exact QV rfl
 | cons f r b =>
  left
  rw[du]
  split
  ·simp;omega
  ·rcases b (i+1) with h | h
   ·simp at h ⊢;omega
   ·rw[Rk h,du];simp;omega
theorem No(h:0<=bF L D):bF L D<L.length:=by
 unfold bF at h ⊢
 rcases BC D L 0 with e | e
 ·simpa using e
 ·rw[Rk e,du]at h;omega
theorem EG{r:Int}(h:(dm L D r==0)=true):(D.toList == [])=false/\0<=bF L D:=by
 unfold dm at h
 cases a:(r==0)
 ·rw[QW a,a]at h;cases h
 ·rw[QT (by rw[a];simp)]at h
  cases b:(D.toList == [])
  ·rw[QT (by rw[b];simp)]at h
   refine⟨rfl,?_⟩
   split at h
   ·cases h
   ·split at h
    ·cases h
    ·omega
  ·rw[QW b]at h;cases h
theorem Js(ds:f.length<=4)(cL:∀k,(ak f k).size<=1024)(n:Nat):∀(k:Nat) (m:List Bool) (d:List Tk) (h:Hd) (M F:Nat) (w:World),aQ m<=n->m.length=f.length->f.length<=F->k<f.length->m[k]?=some false->d.length+2000*aQ m<=100000->rg w x S f M m h d ->
  Calls prog 82 #[.slice (some ⟨x,0,none⟩) f.length S,.int .i64 k,.slice (some ⟨M,0,none⟩) f.length F,.slice h.ao d.length h.cap] w fun e w'=>Kr w M m h d (dQ f n k m d) e w':=by
 induction n with
 | zero=>intro k m d h M F w hn be b4 hk hs;have:=Fx m k hs;omega
 | succ n ih =>
  intro k m d h M F w hn be b4 hk hs hb hI;have cs:=hI ih;clear ih;have c6:(k:Int)<(f.length:Int):=by omega
  have s0:=hI.seen.cell k false hs;have s1:=am hI.seen k;have dk:=ae hI.seen;have cR:=hI.src.1;have k1:ab [M] w (w.setCell ⟨M,k,none⟩ (.bool true)):=(ab.refl [M] w).setCell (Q1 (by simp)) _;obtain⟨w1,an⟩:∃w1,Hid (w.setCell ⟨M,k,none⟩ (.bool true)=w1):=⟨_,rfl⟩
  rw[an.out]at k1;have R1:uY w w1 M h h:=⟨k1.mono (fun dT hx _=>by simp at hx;simp[hx]),Q1 rfl⟩;have a7:rg w1 x S f M (m.set k true) h d:=hI.turn R1 (hI.own.Vg (fun q hq=>k1.block q (hI.own.lt hq) (by simp;intro e;exact hI.a1 (by rw[<-e];exact hq)))) (by rw[<-an.out];exact hI.seen.set k);have hu:=lC m k hs;have cj:(m.set k true).length=f.length:=by rw[Rv];exact be
  obtain⟨c8,e1,ct,c0,c1⟩:=a7.src.2 k hk
  cases e1
  have c7:=cL k;have bv:=hI (Df f k);have ap:=hI (MM f k);have b0:=hI (J1 f k);have HT:Hid (qV f k=bQ false (ij (aE f k) (ak f k))):=rfl;have HR:Hid (dQ f (n+1) k m d=cv (dQ f n) f (qV f k) (m.set k true) d):=rfl;have b1:=hI (xy (aE f k) (ak f k));have cE:=zv (aE f k) (ak f k);obtain⟨R,ck⟩:∃R,Hid (dQ f (n+1) k m d=R):=⟨_,rfl⟩
  rw[ck.out]at HR ⊢;have aS:=hI a7;have b6:=hI R1;clear a7 R1 k1 hI;go_enter func82,ntmps82
  go_upto_region 2 with fail
  rw[an.out]
  go_upto_region 3 with (go_at_call 115;refine(FJ _ _ _ (by omega)).mono ?_;rintro e w2 ⟨hW,rfl,oW,kW,fW⟩)
  have J:=hI (G1 (ij (aE f k) (ak f k)) hW.ao hW.cap w2 (by omega) oW.src (fun t ht=>by have:=b1.out t ht;omega));rw[<-HT.out]at J
  go_upto_region 4 with (go_at_call 116;refine(QU J.out ?_);rintro e w3 ⟨hT,rfl,bT⟩)
  obtain⟨T,cl⟩:∃T,Hid (qV f k=T):=⟨_,rfl⟩
  rw[cl.out]at bv ap b0 HR bT ⊢
  have cF:0<T.length:=by
   obtain⟨u,e1,-⟩:=ap.out
   cases T with
   | nil=>cases e1
   | cons _ _=>simp
  obtain⟨gT,eT,df,bd⟩:=qq bT.own cF;obtain⟨dv,X⟩:=hT;simp only at eT;subst eT;have bd:T.length<=X:=bd;have dl:T.length<=1026:=by have:=bv.out;omega
  have cz:Hid (Kh w w3 x S f M (m.set k true) h h d gT X T):=by
   have f1:=bT.far gT rfl;have f2:=kW.size;have f3:=ae aS.out.seen;refine⟨(aS.out.Vb kW).Vb bT.kept,b6.out.trans (uY.of (bt.Vb (kW.trans bT.kept))),bT.own,fun e=>?_,by omega⟩;have:=aS.out.own.lt e;omega
  obtain⟨U1,a0⟩:∃U1,Hid (aQ (m.set k true)=U1):=⟨_,rfl⟩
  obtain⟨U,K⟩:∃U,Hid (aQ m=U):=⟨_,rfl⟩
  rw[a0.out]at hu;rw[K.out]at hu hn hb;clear c0 c1 s0 s1 ct aS b6 an oW kW fW J bT b1 HT cE;go_wp2
  go_loopg [3,11] T.length (fun g o i wr=>∃(q:Nat) (P:Hd) (O:List Tk) (c:List Bool),q<=T.length/\g=T.length-q/\o=.slice P.ao O.length P.cap/\i=.int .i64 q/\(O.length+2000*aQ c<=d.length+q+2000*U1/\aQ c<=U1/\c.length=f.length)/\Hid (cv (dQ f n) f (T.drop q) c O=R)/\Hid (Kh w wr x S f M c h P O gT X T))
  case atStart=>exact⟨0,h,d,m.set k true,by omega,rfl,rfl,rfl,⟨by rw[a0.out];omega,by rw[a0.out];omega,cj⟩,by show _=_;rw[U0];exact HR.out.symm,cz⟩
  case round =>
   obtain⟨q,P,O,c,hq,hg,rfl,rfl,⟨z1,z2,z3⟩,HE,L⟩:=hrel;obtain⟨U2,j⟩:∃U2,Hid (aQ c=U2):=⟨_,rfl⟩
   rw[j.out]at z1 z2
   by_cases a2:q<T.length
   ·have cX:(q:Int)<(T.length:Int):=by omega
    obtain⟨c0,c1,c2,c3,c4⟩:=pZ L.out.t rfl q T[q] (QP a2);have HD:=hI (Rf a2);have b3:Hid ((T[q].s.toList == [])=false->q+1<T.length):=fun he=>uW.next ap.out q _ (QP a2) he
    rw[HD.out]at HE;obtain⟨bw,Q⟩:∃bw,Hid (dg O=bw):=⟨_,rfl⟩
    have ba:=hI (zJ O P.ao P.cap wr (by omega) L.out.i.own.src);rw[Q.out]at ba;have c5:gT<wr.heap.size:=L.out.t.lt rfl;generalize T[q]=t at *;obtain⟨I,N,tf,tl,tc⟩:=t;simp only at c0 c1 c2 c3 c4 b3
    go_upto_region 8 with (go_at_call 117;refine QU ba.out ?_;rintro e w4 ⟨rfl,bo⟩;rw[bo];clear bo)
    clear ba
    go_cut [47] from 34 to 47 (fun cx wd=>cx=.bool ((N==0)&&(I.toList == []))/\wd=wr)
    case first =>
     cases hr:(N==0)
     ·go_wp2_with fail
      go_meet
      case rel=>exact⟨by rw[hr];rfl,rfl⟩
     ·cases he:(I.toList == [])
      ·go_wp2_with fail
       go_meet
       case rel=>exact⟨by rw[hr,he];rfl,rfl⟩
      ·go_wp2_with fail
       go_meet
       case rel=>exact⟨by rw[hr,he];rfl,rfl⟩
    case rest =>
     obtain⟨rfl,ca⟩:=hcut;subst ca
     cases hA:((N==0)&&(I.toList == []))
     ·cases hi:(I.toList == [36,91])
      ·have H:Hid (cv (dQ f n) f (T.drop (q+1)) c (O++[⟨I,N,tf,tl,tc⟩])=R):=by show _=_;rw[<-HE.out];exact(E1 hA hi).symm
       go_wp2_with (at_builtin;refine bY _ rfl (.tmp 66) (.tmp 71) rfl P O ⟨I,N,tf,tl,tc⟩ rfl L.out.i.own (by omega) rfl ?_;intro h5 C v y;have HM:=hI (L.out.Vl y v);clear v y)
       go_roundg (T.length-(q+1))
       case measure=>omega
       case rel=>exact⟨q+1,h5,O++[⟨I,N,tf,tl,tc⟩],c,by omega,rfl,by simp,by go_num,⟨by rw[j.out];simp;omega,by rw[j.out];exact z2,z3⟩,H,HM⟩
      ·cases bw
       ·have H:Hid (R=(O++[qO ⟨I,N,tf,tl,tc⟩ 4],c)):=by show _=_;rw[<-HE.out];exact Jr hA hi Q.out
        have A:(O++[qO ⟨I,N,tf,tl,tc⟩ 4]).length+2000*aQ c<=d.length+2000*aQ m:=by rw[j.out,K.out];simp;omega
        have l:aQ c<=aQ m:=by rw[j.out,K.out];omega
        go_wp2_with (at_builtin;refine bY _ rfl (.tmp 75) (.tmp 82) rfl P O (qO ⟨I,N,tf,tl,tc⟩ 4) rfl L.out.i.own (by omega) rfl ?_;intro h5 C v y;have HM:=hI (L.out.Vl y v);clear v y);go_ret;exact oM HM.out H.out (by omega) A l (by simp)
       ·have he:(I.toList == [])=false:=by
         have e:I.toList=[36,91]:=by simpa using hi
         rw[e];rfl
        have Y:=b3.out he;obtain⟨d0,d1,d2,d3,d4⟩:=pZ L.out.t rfl (q+1) T[q+1] (QP Y);have cH:=hI (Rf Y);rw[cH.out]at HE;have cb:=b0.out T[q+1] (Rb Y);have aT:Hid ((T[q+1].s.toList == [])=false->q+1+1<T.length):=fun he=>uW.next ap.out (q+1) _ (QP Y) he
        have cu:Hid (T[q+1]?=some T[q+1]):=QP Y;generalize T[q+1]=a at *;obtain⟨W,ar,af,al,ac⟩:=a;simp only at d0 d1 d2 d3 d4 aT cb;have cT:(q:Int)+1<(T.length:Int):=by omega
        obtain⟨r1,ax⟩:∃r1,Hid (dm f W ar=r1):=⟨_,rfl⟩
        have a3:=hI (EE f (some ⟨x,0,none⟩) S W af ar al ac _ (by omega) L.out.i.src (by omega));rw[ax.out]at a3
        go_upto_region 17 with (go_at_call 118;refine QU a3.out ?_;rintro e C ⟨rfl,k5⟩)
        obtain⟨W5,az⟩:∃W5,Hid (C.alloc (.cells #[.string ⟨#[]⟩,.int .i64 r1,.string af,.int .i64 al,.int .i64 ac] 138)=W5):=⟨_,rfl⟩
        have G:W5.heap[C.heap.size]?=some (.cells #[.string ⟨#[]⟩,.int .i64 r1,.string af,.int .i64 al,.int .i64 ac] 138 (0,0)):=by rw[<-az.out];exact QS _ _
        have K5:=k5.trans (show ab [] C W5 by rw[<-az.out];exact(ab.refl [] _).alloc _);have a5:=hI (L.out.Vb K5);have dt:=ae G;have ad:=k5.size;rw[az.out];clear c0 c1 c2 c3 c4 d0 d1 d2 d3 d4 az a3 k5;have p0:W5.cell? ⟨C.heap.size,0,none⟩=some (.string ⟨#[]⟩):=by rw[aa G];rfl
        have p1:W5.cell? ⟨C.heap.size,1,none⟩=some (.int .i64 r1):=by rw[aa G];rfl
        have p2:W5.cell? ⟨C.heap.size,2,none⟩=some (.string af):=by rw[aa G];rfl
        have p3:W5.cell? ⟨C.heap.size,3,none⟩=some (.int .i64 al):=by rw[aa G];rfl
        have p4:W5.cell? ⟨C.heap.size,4,none⟩=some (.int .i64 ac):=by rw[aa G];rfl
        cases h1:(r1==0)
        ·have H:Hid (R=(O++[qO ⟨W,ar,af,al,ac⟩ r1],c)):=by show _=_;rw[<-HE.out,CP hA hi Q.out (by show(dm f W ar==0)=false;rw[ax.out];exact h1)];simp only;rw[ax.out]
         have A:(O++[qO ⟨W,ar,af,al,ac⟩ r1]).length+2000*aQ c<=d.length+2000*aQ m:=by rw[j.out,K.out];simp;omega
         have l:aQ c<=aQ m:=by rw[j.out,K.out];omega
         go_wp2_with (at_builtin;refine bY _ rfl (.tmp 103) (.tmp 105) rfl P O (qO ⟨W,ar,af,al,ac⟩ r1) rfl a5.out.i.own (by omega) rfl ?_;intro h5 w8 v y;have HM:=hI (a5.out.Vl y v);clear v y);go_ret;exact oM HM.out H.out (by omega) A l (by simp)
        ·have cy:r1=0:=by simpa using h1
         subst cy;clear h1;have b2:Hid ((dm f W ar==0)=true):=by show _=_;rw[ax.out];rfl
         obtain⟨cc,bg⟩:=EG b2.out;have bp:q+2<T.length:=aT.out cc;obtain⟨d0,d1,d2,d3,d4⟩:=pZ a5.out.t rfl (q+2) T[q+2] (QP bp);have cq:Hid (T.drop (q+1+1)=T[q+2] :: T.drop (q+3)):=Rf bp;rw[cq.out]at HE;generalize T[q+2]=b at *;obtain⟨bs,br,bf,bl,bc⟩:=b;simp only at d0 d1 d2 d3 d4;have cV:(q:Int)+2<(T.length:Int):=by omega
         obtain⟨r2,bz⟩:∃r2,Hid (dI bs br=r2):=⟨_,rfl⟩
         have a4:=hI (Bl bs bf br bl bc W5);rw[bz.out]at a4;have p:=hI (Jq (rec:=dQ f n) (fs:=f) (r:=T.drop (q+3)) (sn:=c) (t:=⟨I,N,tf,tl,tc⟩) (a:=⟨W,ar,af,al,ac⟩) (b:=⟨bs,br,bf,bl,bc⟩) hA hi Q.out b2.out);rw[HE.out]at p;simp only at p;rw[bz.out]at p
         go_upto_region 19 with (go_at_call 119;refine QU a4.out ?_;rintro e w6 ⟨rfl,k6⟩;have z:=k6.get G (by simp);have f0:=am z 0;have f1:=am z 1;have f2:=am z 2;have f3:=am z 3;have f4:=am z 4;have o0:=aa z 0;have o1:=aa z 1;have o2:=aa z 2;have o3:=aa z 3;have o4:=aa z 4;have dp:=ae z)
         obtain⟨V,ag⟩:∃V,Hid (((((w6.setCell ⟨C.heap.size,0,none⟩ (.string ⟨#[]⟩)).setCell ⟨C.heap.size,1,none⟩ (.int .i64 r2)).setCell ⟨C.heap.size,2,none⟩ (.string bf)).setCell ⟨C.heap.size,3,none⟩ (.int .i64 bl)).setCell ⟨C.heap.size,4,none⟩ (.int .i64 bc)=V):=⟨_,rfl⟩
         have K6:=(show Hid (ab [] _ V) by rw[<-ag.out];exact(((((K5.trans k6).setCell (QV (by exact ad)) _).setCell (QV (by exact ad)) _).setCell (QV (by exact ad)) _).setCell (QV (by exact ad)) _).setCell (QV (by exact ad)) _);have D:=hI (L.out.Vb K6.out)
         have BX:V.heap[C.heap.size]?=some (.cells #[.string ⟨#[]⟩,.int .i64 r2,.string bf,.int .i64 bl,.int .i64 bc] 138 (0,0)):=by
          rw[<-ag.out,ah (ah (ah (ah (ah z 0 _) 1 _) 2 _) 3 _) 4 _];rfl
         rw[ag.out];clear p0 p1 p2 p3 p4 d0 d1 d2 d3 d4 f0 f1 f2 f3 f4 o0 o1 o2 o3 o4 a4 ag G z K6 k6 K5;have p0:V.cell? ⟨C.heap.size,0,none⟩=some (.string ⟨#[]⟩):=by rw[aa BX];rfl
         have p1:V.cell? ⟨C.heap.size,1,none⟩=some (.int .i64 r2):=by rw[aa BX];rfl
         have p2:V.cell? ⟨C.heap.size,2,none⟩=some (.string bf):=by rw[aa BX];rfl
         have p3:V.cell? ⟨C.heap.size,3,none⟩=some (.int .i64 bl):=by rw[aa BX];rfl
         have p4:V.cell? ⟨C.heap.size,4,none⟩=some (.int .i64 bc):=by rw[aa BX];rfl
         have c9:=ae BX
         cases h2:(r2==0)
         ·have H:Hid (R=(O++[qO ⟨bs,br,bf,bl,bc⟩ r2],c)):=by show _=_;rw[p.out,QW h2]
          have A:(O++[qO ⟨bs,br,bf,bl,bc⟩ r2]).length+2000*aQ c<=d.length+2000*aQ m:=by rw[j.out,K.out];simp;omega
          have l:aQ c<=aQ m:=by rw[j.out,K.out];omega
          go_wp2_with (at_builtin;refine bY _ rfl (.tmp 103) (.tmp 105) rfl P O (qO ⟨bs,br,bf,bl,bc⟩ r2) rfl D.out.i.own (by omega) rfl ?_;intro h5 w8 v y;have HM:=hI (D.out.Vl y v);clear v y);go_ret;exact oM HM.out H.out (by omega) A l (by simp)
         ·have cp:r2=0:=by simpa using h2
          subst cp;clear h2;rw[QT (by simp)]at p;obtain⟨jn,b5⟩:∃jn:Nat,bF f W=(jn:Int):=⟨(bF f W).toNat,by omega⟩
          have cB:jn<f.length:=by have:=No bg;omega
          have dz:(jn:Int)<(f.length:Int):=by omega
          have cP:(0:Int)<=(jn:Int):=by omega
          have ai:=hI (mu f (some ⟨x,0,none⟩) S W V (by omega) D.out.i.src);rw[b5]at ai p;rw[Sa]at p;obtain⟨e0,-⟩:=pZ D.out.t rfl (q+1) _ cu.out;simp only at e0;obtain⟨bj,a6⟩:∃bj,c[jn]?=some bj:=⟨_,QP (by omega)⟩
          have sj:=D.out.i.seen.cell jn bj a6;have cf:c.getD jn true=bj:=by rw[QQ,a6];rfl
          rw[cf]at p;have db:=ae D.out.i.seen;have cS:gT<V.heap.size:=D.out.t.lt rfl;clear b5 bg
          cases bj
          ·rw[QT (by simp)]at p
           have Z:=hI (cs.out jn c O P M F V (by rw[j.out];omega) z3 b4 cB a6 (by rw[j.out];omega) D.out.i);obtain⟨R7,co⟩:∃R7,Hid (dQ f n jn c O=R7):=⟨_,rfl⟩
           rw[co.out]at Z p;obtain⟨O7,E⟩:=R7
           go_upto_region 24 with (first | (go_at_call 35;refine QU ai.out ?_;rintro e w9 ⟨rfl,B⟩;rw[B];clear B) | (go_at_call 82;refine QU Z.out ?_;rintro e w7 ⟨h7,rfl,o7,s7,r7,l7,n7,u7⟩;have bx:=hI (D.out.turn r7 o7 s7)))
           clear p0 p1 p2 p3 p4 e0 sj Z ai BX;have l7:E.length=c.length:=l7;have n7:O7.length+2000*aQ E<=O.length+2000*aQ c:=n7;have u7:aQ E<=aQ c:=u7;obtain⟨bk,cA⟩:∃bk,Hid (eu O7=bk):=⟨_,rfl⟩
           have ch:O7.length<=100000:=by rw[j.out]at n7;omega
           have J:=hI (uC O7 h7.ao h7.cap w7 ch o7.src);rw[cA.out]at J p;rw[j.out]at n7 u7;clear o7 s7 r7
           cases bk
           ·have H:Hid (cv (dQ f n) f (T.drop (q+3)) E O7=R):=by show _=_;rw[p.out,QT (by simp)]
            go_wp2_with (go_at_call 83;refine QU J.out ?_;rintro e w9 ⟨rfl,B⟩;rw[B];clear B)
            go_roundg (T.length-(q+3))
            case measure=>omega
            case rel=>exact⟨q+3,h7,O7,E,by omega,rfl,rfl,by go_num,⟨by omega,by omega,by omega⟩,H,bx⟩
           ·have H:Hid (R=(O7,E)):=by show _=_;rw[p.out,QW rfl]
            have A:O7.length+2000*aQ E<=d.length+2000*aQ m:=by rw[K.out];omega
            have l:aQ E<=aQ m:=by rw[K.out];omega
            go_wp2_with (go_at_call 83;refine QU J.out ?_;rintro e w9 ⟨rfl,B⟩;rw[B];clear B);go_ret;exact oM bx.out H.out (by omega) A l rfl
          ·rw[QW rfl]at p
           go_wp2_with (go_at_call 35;refine QU ai.out ?_;rintro e w9 ⟨rfl,B⟩;rw[B];clear B)
           go_roundg (T.length-(q+3))
           case measure=>omega
           case rel=>exact⟨q+3,P,O,c,by omega,rfl,rfl,by go_num,⟨by rw[j.out];omega,by rw[j.out];exact z2,z3⟩,p.out.symm,D⟩
     ·cases bw
      ·have H:Hid (R=(O++[qO ⟨I,N,tf,tl,tc⟩ 7],c)):=by show _=_;rw[<-HE.out];exact by rw[yZ hA,QT (by rw[Q.out];simp)]
       have A:(O++[qO ⟨I,N,tf,tl,tc⟩ 7]).length+2000*aQ c<=d.length+2000*aQ m:=by rw[j.out,K.out];simp;omega
       have l:aQ c<=aQ m:=by rw[j.out,K.out];omega
       go_wp2_with (at_builtin;refine bY _ rfl (.tmp 50) (.tmp 57) rfl P O (qO ⟨I,N,tf,tl,tc⟩ 7) rfl L.out.i.own (by omega) rfl ?_;intro h5 C v y;have HM:=hI (L.out.Vl y v);clear v y);go_ret;exact oM HM.out H.out (by omega) A l (by simp)
      ·have H:Hid (R=(O,c)):=by show _=_;rw[<-HE.out,yZ hA,QW Q.out]
       have A:O.length+2000*aQ c<=d.length+2000*aQ m:=by rw[j.out,K.out];omega
       have l:aQ c<=aQ m:=by rw[j.out,K.out];omega
       go_wp2;go_ret;exact oM L.out H.out (by omega) A l rfl
   ·have e:q=T.length:=by omega
    subst e;have H:Hid (R=(O,c)):=by show _=_;rw[<-HE.out,List.drop_length,cv]
    have A:O.length+2000*aQ c<=d.length+2000*aQ m:=by rw[j.out,K.out];omega
    have l:aQ c<=aQ m:=by rw[j.out,K.out];omega
    go_wp2;go_ret;exact oM L.out H.out (by omega) A l rfl
theorem Ls:(prog.info? 4).map (fun i=>(i.zero,i.size,i.bytes))=some (some (.bool false),1,1):=by kernel_rfl
theorem wE:madeCells (Value.bool false).cells (S*1)=((List.replicate S false).map Value.bool).toArray:=by
 rw[UZ]
 apply Array.ext
 ·rw[Su];simp
 ·intro i a b
  have e:(Value.bool false).cells=#[.bool false]:=rfl;simp[madeCells,e,Nat.mod_one]
def pt(fs:Fs)(k:Nat):List Tk:=(dQ fs fs.length k (List.replicate fs.length false) []).1
def jf:Tk:=⟨⟨#[]⟩,0,⟨#[]⟩,0,0⟩
def cC(fs:Fs)(k:Nat):List Tk×Tk:=if eu (pt fs k)=true then((pt fs k).dropLast,(pt fs k).getLast?.getD jf) else(pt fs k,jf)
theorem mP:aQ (List.replicate S false)=S:=by
 unfold aQ;rw[List.countP_replicate];simp
theorem lj.drop(h:lj k g v d):lj k g v d.dropLast:=by
 refine⟨by rw[SF];have:=h.1;omega,fun b t a=>h.2 b t ?_⟩;rw[List.getElem?_dropLast]at a
 split at a
 ·exact a
 ·cases a
theorem lj.keptS{S:List Nat}(h:lj k g v d)(b:ab S k M)(i:∀a,g=some ⟨a,0,none⟩->a∉S):lj M g v d:=by
 refine⟨h.1,fun j t r=>?_⟩;obtain⟨a,e,c,p,f,l,m,n⟩:=h.2 j t r;have q:∀o,M.cell? ⟨a,o,none⟩=k.cell? ⟨a,o,none⟩:=fun o=>Q6 (b.block a c (i a e))
 exact⟨a,e,QX c b.size,by rw[q];exact p,by rw[q];exact f,by rw[q];exact l,by rw[q];exact m,by rw[q];exact n⟩
theorem sI{i l j n:Value}(h:k.heap[v]?=some (.cells #[i,l,j,n] 87 (0,0)))(a b c d:Value) :
  (k.setCell ⟨v,0,none⟩ a).cell? ⟨v,0,none⟩=some a/\((k.setCell ⟨v,0,none⟩ a).setCell ⟨v,1,none⟩ b).cell? ⟨v,1,none⟩=some b/\(((k.setCell ⟨v,0,none⟩ a).setCell ⟨v,1,none⟩ b).setCell ⟨v,2,none⟩ c).cell? ⟨v,2,none⟩=some c/\((((k.setCell ⟨v,0,none⟩ a).setCell ⟨v,1,none⟩ b).setCell ⟨v,2,none⟩ c).setCell ⟨v,3,none⟩ d).cell? ⟨v,3,none⟩=some d:=by
 have e:=ah h 0 a;have f:=ah e 1 b;have g:=ah f 2 c;have m:=ah g 3 d;exact⟨by rw[aa e];rfl,by rw[aa f];rfl,by rw[aa g];rfl,by rw[aa m];rfl⟩
theorem Ij(az:f.length<=4)(aS:∀x,(ak f x).size<=1024)(hk:x<f.length)(hO:mV T (some ⟨l,0,none⟩) b f)(hg:l<T.heap.size) :
  Calls prog 54 #[.slice (some ⟨l,0,none⟩) f.length b,.int .i64 x] T fun e w'=>∃ao c,e=.returned (.tuple #[.slice ao (cC f x).1.length c,.agg #[.int .i64 (cC f x).2.rule,.string (cC f x).2.file,.int .i64 (cC f x).2.line,.int .i64 (cC f x).2.col]])/\lj w' ao c (cC f x).1/\ab [] T w'/\∀g,ao=some ⟨g,0,none⟩->T.heap.size<=g/\g<w'.heap.size:=by
 obtain⟨i1,ac,an,ap,aT⟩:=Re Ls;have m2:=fun T=>dB (P:=prog) T 134 4 i1 _ underlying134 ac an f.length 1 ap (by rw[aT];omega) (by omega)
 obtain⟨mc,S⟩:∃mc,Hid (madeCells (Value.bool false).cells (f.length*1)=mc):=⟨_,rfl⟩
 have ax:Hid (mc=((List.replicate f.length false).map Value.bool).toArray):=by show _=_;rw[<-S.out,wE]
 rw[S.out]at m2;have a1:=hO.1;obtain⟨W,U⟩:∃W,Hid ((T.alloc (.cells #[.int .i64 0,.string ⟨#[]⟩,.int .i64 0,.int .i64 0] 87)).alloc (.cells mc 4)=W):=⟨_,rfl⟩
 have KW:ab [] T W:=by rw[<-U.out];exact((ab.refl [] _).alloc _).alloc _
 have SW:jy W (T.heap.size+1) (List.replicate f.length false):=by
  rw[<-U.out,ax.out];have:=QS (T.alloc (.cells #[.int .i64 0,.string ⟨#[]⟩,.int .i64 0,.int .i64 0] 87)) (.cells ((List.replicate f.length false).map Value.bool).toArray 4);simpa [jy] using this
 have Y:W.heap[T.heap.size]?=some (.cells #[.int .i64 0,.string ⟨#[]⟩,.int .i64 0,.int .i64 0] 87 (0,0)):=by
  rw[<-U.out];exact((ab.refl [] _).alloc _).get (QS _ _) (by simp)
 have hI:rg W l b f (T.heap.size+1) (List.replicate f.length false) ⟨none,0⟩ []:=⟨QZ _ _ _ _,SW,hO.kept KW (by simp),(by intro e;cases e),(by intro e;cases e),by omega,QX hg KW.size⟩;have C:=hI (Js f l b az aS f.length x (List.replicate f.length false) [] ⟨none,0⟩ (T.heap.size+1) f.length W (by rw[mP];omega) (by simp) (by omega) hk (by rw[Sf];simp[hk]) (by rw[mP];simp;omega) hI);have d:=hI KW;clear hI SW KW hO;go_enter func54,ntmps54
 go_upto_region 2 with fail
 rw[U.out];obtain⟨Z,K⟩:∃Z,Hid (dQ f f.length x (List.replicate f.length false) []=Z):=⟨_,rfl⟩
 rw[K.out]at C;have y:Hid (pt f x=Z.1):=by show _=_;unfold pt;rw[K.out]
 obtain⟨L,ar⟩:=Z;have y:Hid (pt f x=L):=y.out
 go_upto_region 3 with (go_at_call 82;refine QU C.out ?_;rintro e a ⟨h,rfl,M,s7,V,l7,n7,u7⟩)
 have n7:L.length+2000*aQ ar<=0+2000*aQ (List.replicate f.length false):=n7;rw[mP]at n7;have M:aw a h (ir L):=M;have hL:L.length<=100000:=by omega
 have B:ab [T.heap.size+1] W a:=V.kept;have m:=B.get Y (by simp)
 have D:Hid (∀g,h.ao=some ⟨g,0,none⟩->g∉[T.heap.size]):=fun g u X=>by
  have F:h.blk=some g:=by unfold Hd.blk;rw[u];rfl
  have e3:=ae Y;simp at X
  rcases V.blk with e | ⟨q,e,af⟩
  ·rw[F]at e;cases e
  ·rw[F]at e;cases e;omega
 have r:Hid (∀g,h.ao=some ⟨g,0,none⟩->T.heap.size<=g/\g<a.heap.size):=fun g u=>by
  have F:h.blk=some g:=by unfold Hd.blk;rw[u];rfl
  have e3:=ae Y;have e4:=M.lt F
  rcases V.blk with e | ⟨q,e,af⟩
  ·rw[F]at e;cases e
  ·rw[F]at e;cases e;omega
 have A:Hid (ab [] T a):=⟨B.os.trans d.out.os,B.tape.trans d.out.tape,B.output.trans d.out.output,Q3 d.out.size B.size,fun q X _=>by rw[B.block q (QX X d.out.size) (by simp;omega),d.out.block q X (by simp)]⟩;obtain⟨bk,p⟩:∃bk,Hid (eu L=bk):=⟨_,rfl⟩
 have j:=hI (uC L h.ao h.cap a hL M.src);rw[p.out]at j;have f0:=am m 0;have f1:=am m 1;have f2:=am m 2;have f3:=am m 3;have g0:a.cell? ⟨T.heap.size,0,none⟩=some (.int .i64 0):=by rw[aa m];rfl
 have g1:a.cell? ⟨T.heap.size,1,none⟩=some (.string ⟨#[]⟩):=by rw[aa m];rfl
 have g2:a.cell? ⟨T.heap.size,2,none⟩=some (.int .i64 0):=by rw[aa m];rfl
 have g3:a.cell? ⟨T.heap.size,3,none⟩=some (.int .i64 0):=by rw[aa m];rfl
 have y7:=ae m;have k:=hI M.src;clear C Y U m2 V s7 l7 u7 d B
 cases bk
 ·have R:Hid (cC f x=(L,jf)):=by show _=_;unfold cC;rw[y.out,p.out,QT (by simp)]
  go_wp2_with (go_at_call 83;refine QU j.out ?_;rintro e w9 ⟨rfl,o⟩;rw[o];clear o);obtain⟨x0,x1,x2,x3⟩:=sI m (.int .i64 0) (.string ⟨#[]⟩) (.int .i64 0) (.int .i64 0);have N:ab [T.heap.size] a ((((a.setCell ⟨T.heap.size,0,none⟩ (.int .i64 0)).setCell ⟨T.heap.size,1,none⟩ (.string ⟨#[]⟩)).setCell ⟨T.heap.size,2,none⟩ (.int .i64 0)).setCell ⟨T.heap.size,3,none⟩ (.int .i64 0)):=((((ab.refl _ _).setCell (Q1 (by simp)) _).setCell (Q1 (by simp)) _).setCell (Q1 (by simp)) _).setCell (Q1 (by simp)) _;exact QY (v:=.tuple #[.slice h.ao L.length h.cap,.agg #[.int .i64 0,.string ⟨#[]⟩,.int .i64 0,.int .i64 0]]) (by simp[results,results54,go_sem,x0,x1,x2,x3]) rfl ⟨h.ao,h.cap,by rw[R.out];rfl,by rw[R.out];exact lj.keptS k.out N D.out,(((A.out.setCell (QV (by simp)) _).setCell (QV (by simp)) _).setCell (QV (by simp)) _).setCell (QV (by simp)) _,fun g u=>⟨(r.out g u).1,QX (r.out g u).2 N.size⟩⟩
 ·have hn:0<L.length:=by
   cases ad:L with
   | nil=>rw[ad]at p;cases p.out
   | cons _ _=>simp
  obtain⟨n,s⟩:∃n,Hid (L.length=n):=⟨_,rfl⟩
  have J:n-1<L.length:=by rw[<-s.out];omega
  rw[s.out]at hn hL j ⊢;obtain⟨gs,u,a3,c0,c1,c2,c3,c4⟩:=k.out.2 (n-1) L[n-1] (QP J)
  have R:Hid (cC f x=(L.dropLast,L[n-1])):=by
   show _=_
   unfold cC;rw[y.out,p.out,QW rfl,SO,s.out,QP J];rfl
  have al:Hid (L.dropLast.length=n-1):=by show _=_;rw[SF,s.out]
  have a4:n<=h.cap:=by have:=k.out.1;rw[s.out]at this;exact this
  generalize L[n-1]=t at *;obtain⟨ts,E,I,G,H⟩:=t;simp only at c0 c1 c2 c3 c4;have a2:IntKind.i64.wrap ((n:Int)-1)=(n:Int)-1:=by rw[R9];omega
  have a5:((n:Int)-1).toNat=n-1:=by omega
  have b1:(0:Int)<=(n:Int)-1:=by omega
  have b2:(n:Int)-1<(n:Int):=by omega
  have b3:(1:Int)<=(n:Int):=by omega
  have b4:(n:Int)-1<=(h.cap:Int):=by omega
  have b5:(0:Int)<(n:Int):=by omega
  rw[u]at j k D r ⊢;obtain⟨i,z⟩:∃i,Hid (a.alloc (.cells #[.string ts,.int .i64 E,.string I,.int .i64 G,.int .i64 H] 138)=i):=⟨_,rfl⟩
  go_upto_region 7 with (go_at_call 83;refine QU j.out ?_;rintro e w9 ⟨rfl,o⟩;rw[o];clear o)
  rw[z.out];have Q:ab [] a i:=by rw[<-z.out];exact(ab.refl [] _).alloc _
  have O:i.heap[a.heap.size]?=some (.cells #[.string ts,.int .i64 E,.string I,.int .i64 G,.int .i64 H] 138 (0,0)):=by rw[<-z.out];exact QS _ _
  have w:=Q.get m (by simp);have ai:=hI (lj.drop (lj.Vb k.out Q));have ag:=hI (A.out.trans Q);have a0:=hI Q.size;clear c0 c1 c2 c3 c4 f0 f1 f2 f3 g0 g1 g2 g3 j z m Q A k;have p1:i.cell? ⟨a.heap.size,1,none⟩=some (.int .i64 E):=by rw[aa O];rfl
  have p2:i.cell? ⟨a.heap.size,2,none⟩=some (.string I):=by rw[aa O];rfl
  have p3:i.cell? ⟨a.heap.size,3,none⟩=some (.int .i64 G):=by rw[aa O];rfl
  have p4:i.cell? ⟨a.heap.size,4,none⟩=some (.int .i64 H):=by rw[aa O];rfl
  have f0:=am w 0;have f1:=am w 1;have f2:=am w 2;have f3:=am w 3;have g0:i.cell? ⟨T.heap.size,0,none⟩=some (.int .i64 0):=by rw[aa w];rfl
  have g1:i.cell? ⟨T.heap.size,1,none⟩=some (.string ⟨#[]⟩):=by rw[aa w];rfl
  have g2:i.cell? ⟨T.heap.size,2,none⟩=some (.int .i64 0):=by rw[aa w];rfl
  have g3:i.cell? ⟨T.heap.size,3,none⟩=some (.int .i64 0):=by rw[aa w];rfl
  have y8:=ae O;have y9:=ae w
  go_region
  go_wp2;obtain⟨x0,x1,x2,x3⟩:=sI w (.int .i64 E) (.string I) (.int .i64 G) (.int .i64 H);have N:ab [T.heap.size] i ((((i.setCell ⟨T.heap.size,0,none⟩ (.int .i64 E)).setCell ⟨T.heap.size,1,none⟩ (.string I)).setCell ⟨T.heap.size,2,none⟩ (.int .i64 G)).setCell ⟨T.heap.size,3,none⟩ (.int .i64 H)).drew:=(((((ab.refl _ _).setCell (Q1 (by simp)) _).setCell (Q1 (by simp)) _).setCell (Q1 (by simp)) _).setCell (Q1 (by simp)) _).drew;exact QY (v:=.tuple #[.slice (some ⟨gs,0,none⟩) (n-1) h.cap,.agg #[.int .i64 E,.string I,.int .i64 G,.int .i64 H]]) (by simp[results,results54,go_sem,x0,x1,x2,x3]) rfl ⟨some ⟨gs,0,none⟩,h.cap,by rw[R.out,al.out],by rw[R.out];exact lj.keptS ai.out N D.out,((((ag.out.setCell (QV (by simp)) _).setCell (QV (by simp)) _).setCell (QV (by simp)) _).setCell (QV (by simp)) _).drew,fun g u=>⟨(r.out g u).1,QX (r.out g u).2 (Q3 a0.out N.size)⟩⟩
structure Sm where
 a:Nat
 z:Nat
 h:Nat
 k:ByteArray
def A6(w:World)(ao:Option Addr)(cap:Nat)(S:List Sm):Prop:=S.length<=cap/\∀k s,S[k]?=some s->∃g,ao=some ⟨g,0,none⟩/\g<w.heap.size /\
  w.cell? ⟨g,k*4,none⟩=some (.int .i64 s.a)/\w.cell? ⟨g,k*4+1,none⟩=some (.int .i64 s.z)/\w.cell? ⟨g,k*4+2,none⟩=some (.int .i64 s.h)/\w.cell? ⟨g,k*4+3,none⟩=some (.string s.k)
theorem A6.Vb{S:List Sm}(h:A6 k g v S)(b:ab [] k M):A6 M g v S:=by
 refine⟨h.1,fun j t m=>?_⟩;obtain⟨a,e,c,l,d,f,i⟩:=h.2 j t m;have q:∀o,M.cell? ⟨a,o,none⟩=k.cell? ⟨a,o,none⟩:=fun o=>Q6 (b.block a c (by simp))
 exact⟨a,e,QX c b.size,by rw[q];exact l,by rw[q];exact d,by rw[q];exact f,by rw[q];exact i⟩
structure fz(w:World)(b:Nat)(T:List Tk)(aoT:Option Addr)(cT:Nat)(S:List Sm)(aoS:Option Addr)(cS:Nat):Prop where
 d:w.heap[b]?=some (.cells #[.slice aoT T.length cT,.slice aoS S.length cS] 141 (0,0))
 t:lj w aoT cT T
 s:A6 w aoS cS S
theorem fz.Vb{S:List Sm}(h:fz k v d g z0 S y0 z5)(a:ab [] k M):fz M v d g z0 S y0 z5 :=
 ⟨a.get h.d (by simp),h.t.Vb a,h.s.Vb a⟩
theorem fz.cells{S:List Sm}(h:fz k v d g z0 S y0 z5):k.cell? ⟨v,0,none⟩=some (.slice g d.length z0)/\k.cell? ⟨v,1,none⟩=some (.slice y0 S.length z5)/\v<k.heap.size :=
 ⟨by rw[aa h.d];rfl,by rw[aa h.d];rfl,ae h.d⟩
def aC(k:ByteArray):Bool:=(k.toList == [36,97])||(k.toList == [36,112])
def aG(k:ByteArray):Bool:=(k.toList == [36,102])||(k.toList == [36,101])
theorem fT :
  Calls prog 122 #[.string n] T fun e a=>e=.returned (.bool (aC n))/\a=T:=by
 go_enter func122,ntmps122;go_wp2
 all_goals go_ret
 all_goals (refine⟨?_,rfl⟩;simp[aC, *])
theorem lJ :
  Calls prog 123 #[.string n] T fun e a=>e=.returned (.bool (aG n))/\a=T:=by
 go_enter func123,ntmps123;go_wp2
 all_goals go_ret
 all_goals (refine⟨?_,rfl⟩;simp[aG, *])
def ge(w:World)(ao:Option Addr)(L:List ByteArray):Prop:=∀k x,L[k]?=some x->∃g,ao=some ⟨g,0,none⟩/\g<w.heap.size/\w.cell? ⟨g,k,none⟩=some (.string x)
theorem aw.srcX(o:aw k z4 (aB zb)):ge k z4.ao zb:=by
 intro e x a
 rcases o.Vm with ⟨_,c,_⟩ | ⟨g,d,b,f,h,-⟩
 ·have c:zb.length=0:=c
  have:=(Q8.1 a).1;omega
 ·exact⟨g,b,ae f,o.cell b e (.string x) (by simp[aB,cN,a])⟩
theorem Nv(a:S<y.length)(h:(y[S].toList==n.toList)=true):aJ y n=true:=by
 unfold aJ;exact RC.2 ⟨y[S],Rb a,h⟩
theorem Nw(h:∀k (a:k<y.length),(y[k].toList==n.toList)=false):aJ y n=false:=by
 unfold aJ;rw[TH];intro c b;obtain⟨k,a,e⟩:=R0 b;have:=h k a;rw[e]at this;rw[this];simp
theorem j9(l:ge T i y)(v:y.length<=1000000000) :
  Calls prog 93 #[.slice i y.length x,.string n] T fun e s=>e=.returned (.bool (aJ y n))/\s=T:=by
 have t:=hI l;clear l;go_enter func93,ntmps93;go_wp2
 go_loopg [5] y.length (fun g p wr=>∃k:Nat,k<=y.length/\g=y.length-k/\p=.int .i64 k/\Hid (∀j (a:j<y.length),j<k->(y[j].toList==n.toList)=false)/\wr=T)
 case atStart=>exact⟨0,by omega,by omega,rfl,(fun j _ h=>by omega),rfl⟩
 case round =>
  obtain⟨k,w,C,rfl,d,rfl⟩:=hrel
  by_cases c:k<y.length
  ·obtain⟨z,rfl,o,B⟩:=t.out k y[k] (QP c)
   have m:(k:Int)<(y.length:Int):=by omega
   have r:Hid ((y[k].toList==n.toList)=true->aJ y n=true):=Nv y n k c
   have q:Hid ((y[k].toList==n.toList)=false->∀j (a:j<y.length),j<k+1->(y[j].toList==n.toList)=false):=fun h j a A=>by
    by_cases e:j=k
    ·subst e;exact h
    ·exact d.out j a (by omega)
   generalize y[k]=u at *
   cases f:(u.toList==n.toList)
   ·have b:Hid (∀j (a:j<y.length),j<k+1->(y[j].toList==n.toList)=false):=q.out f
    go_wp2
    go_roundg (y.length-(k+1))
    case measure=>omega
    case rel=>exact⟨k+1,by omega,rfl,by go_num,b,rfl⟩
   ·have b:Hid (aJ y n=true):=r.out f
    go_wp2;go_ret;exact⟨aD b.out.symm,rfl⟩
  ·have b:Hid (aJ y n=false):=Nw y n (fun j a=>d.out j a (by omega))
   go_wp2;go_ret;exact⟨aD b.out.symm,rfl⟩
def tS(T:List Tk)(i:Nat):ByteArray:=(T.getD i jf).s
theorem iw(h:S<w.length):w[S]?=some (w.getD S jf):=by
 rw[QQ,QP h];rfl
def ew(T:List Tk)(b:Nat):ByteArray×Nat:=if(ii (tS T b) ⟨#[36]⟩||decide (T.length<=b+1))=true then(tS T b,b+1) else(tS T (b+1),b+2)
theorem Gq(L:List Sm)(k:Option Addr)(J:Nat)(f:World)(q:fz f l w i S L k J)(A:b<w.length)(F:w.length<=100000)(G:∀C,(tS w C).size<=1073741824) :
  Calls prog 85 #[.pointer (some ⟨l,0,none⟩),.int .i64 b] f fun e E=>e=.returned (.tuple #[.string (ew w b).1,.int .i64 ((ew w b).2:Nat)])/\E=f:=by
 obtain⟨I,-,M⟩:=q.cells;obtain⟨v,rfl,K,s,-⟩:=q.t.2 b _ (iw w b A);replace s:f.cell? ⟨v,b*5,none⟩=some (.string (tS w b)):=s;have j:(b:Int)<(w.length:Int):=by omega
 have o:=G b;have c:((b+1:Nat):Int)=(b:Int)+1:=by omega
 have p:((b+2:Nat):Int)=(b:Int)+2:=by omega
 obtain⟨x,g⟩:∃x,Hid (tS w b=x):=⟨_,rfl⟩
 rw[g.out]at s o;obtain⟨n,h⟩:∃n,Hid (w.length=n):=⟨_,rfl⟩
 rw[h.out]at I j F
 cases r:ii x ⟨#[36]⟩
 ·by_cases N:n<=b+1
  ·have d:Hid (ew w b=(x,b+1)):=by show _=_;unfold ew;rw[g.out,r,h.out,QW (by simp;omega)]
   have m:(n:Int)<=(b:Int)+1:=by omega
   go_enter func85,ntmps85;go_wp2_with (go_at_call 120;refine(fF x _ _ (by omega) (by show 1<=_;omega)).mono ?_;rintro e z ⟨rfl,a⟩;rw[a];clear a);go_ret2;exact⟨by rw[d.out];show _=Ending.returned (.tuple #[.string x,.int .i64 ((b+1:Nat):Int)]);rw[c];rfl,rfl⟩
  ·have d:Hid (ew w b=(tS w (b+1),b+2)):=by show _=_;unfold ew;rw[g.out,r,h.out,QT (by simp;omega)]
   have m:¬(n:Int)<=(b:Int)+1:=by omega
   have D:(b:Int)+1<(n:Int):=by omega
   obtain⟨H,B,-,u,-⟩:=q.t.2 (b+1) _ (iw w (b+1) (by rw[h.out];omega))
   cases B
   replace u:f.cell? ⟨v,(b+1)*5,none⟩=some (.string (tS w (b+1))):=u;generalize tS w (b+1)=y at *;go_enter func85,ntmps85;go_wp2_with (go_at_call 120;refine(fF x _ _ (by omega) (by show 1<=_;omega)).mono ?_;rintro e z ⟨rfl,a⟩;rw[a];clear a);go_ret2;exact⟨by rw[d.out];show _=Ending.returned (.tuple #[.string y,.int .i64 ((b+2:Nat):Int)]);rw[p];rfl,rfl⟩
 ·have d:Hid (ew w b=(x,b+1)):=by show _=_;unfold ew;rw[g.out,r,QW (by simp)]
  go_enter func85,ntmps85;go_wp2_with (go_at_call 120;refine(fF x _ _ (by omega) (by show 1<=_;omega)).mono ?_;rintro e z ⟨rfl,a⟩;rw[a];clear a);go_ret2;exact⟨by rw[d.out];show _=Ending.returned (.tuple #[.string x,.int .i64 ((b+1:Nat):Int)]);rw[c];rfl,rfl⟩
def qE:Int->List Sm->Bool
 | _,[]=>true
 | o,s :: r=>if aO o s.k<0 then false else qE (aO o s.k) r
def aV(S:List Sm)(j n:Nat):Bool:=qE 0 ((S.drop j).take (n-j))
def bb(S:List Sm)(n:Nat):Int:=(S.take n).foldl (fun o s=>aO o s.k) 0
theorem uG(S:List Sm)(k:Nat)(h:k<S.length):bb S (k+1)=aO (bb S k) S[k].k:=by
 unfold bb;rw[RG h,Sw];rfl
theorem Di(b:(D.toList == [36,123])=true)(a:(D.toList == [36,125])=true):False:=by
 have c:D.toList=[36,123]:=by simpa using b
 rw[c]at a;exact absurd a (by decide)
theorem DT(a:List Sm)(p:Option Addr)(E:Nat)(j:World)(r:fz j l w i S a p E)(M:b<=a.length)(O:a.length<=100000) :
  Calls prog 168 #[.pointer (some ⟨l,0,none⟩),.int .i64 b] j fun e D=>e=.returned (.int .i64 (bb a b))/\D=j:=by
 obtain⟨-,I,N⟩:=r.cells;have C:=hI r.s.2;clear r;go_enter func168,ntmps168;go_wp2
 go_loopg [5,6] b (fun g o z wr=>∃(k:Nat) (m:Int),k<=b/\g=b-k/\o=.int .i64 m/\z=.int .i64 k/\(-(k:Int)<=m/\m<=(k:Int))/\Hid (m=bb a k)/\wr=j)
 case atStart=>exact⟨0,0,by omega,rfl,rfl,rfl,by omega,rfl,rfl⟩
 case round =>
  obtain⟨k,m,F,P,rfl,rfl,L,v,rfl⟩:=hrel
  by_cases B:k<b
  ·have h:k<a.length:=by omega
   obtain⟨J,rfl,y,-,-,-,A⟩:=C.out k a[k] (QP h);have c:=hI (uG a k h);have x:(k:Int)<(b:Int):=by omega
   have u:(k:Int)<(a.length:Int):=by omega
   rw[<-v.out]at c;generalize a[k]=t at *;obtain⟨G,H,K,q⟩:=t;simp only at A c
   cases n:(q.toList == [36,123])
   ·cases f:(q.toList == [36,125])
    ·have d:Hid (m=bb a (k+1)):=by show _=_;rw[c.out,aO,n,f];simp
     go_wp2
     go_roundg (b-(k+1))
     case measure=>omega
     case rel=>exact⟨k+1,m,by omega,rfl,rfl,by go_num,by omega,d,rfl⟩
    ·have d:Hid (m-1=bb a (k+1)):=by show _=_;rw[c.out,aO,n,f];simp
     go_wp2
     go_roundg (b-(k+1))
     case measure=>omega
     case rel=>exact⟨k+1,m-1,by omega,rfl,by go_num,by go_num,by omega,d,rfl⟩
   ·cases f:(q.toList == [36,125])
    ·have d:Hid (m+1=bb a (k+1)):=by show _=_;rw[c.out,aO,n,f];simp
     go_wp2
     go_roundg (b-(k+1))
     case measure=>omega
     case rel=>exact⟨k+1,m+1,by omega,rfl,by go_num,by go_num,by omega,d,rfl⟩
    ·exact(Di n f).elim
  ·have e:k=b:=by omega
   subst e;go_wp2;go_ret;exact⟨QN v.out,rfl⟩
theorem Kw(S:List Sm)(k n:Nat)(h:k<n)(a:n<=S.length):(S.drop k).take (n-k)=S[k]'(by omega) :: (S.drop (k+1)).take (n-(k+1)):=by
 rw[Rf (by omega),show n-k=(n-(k+1))+1 by omega,List.take_succ_cons]
theorem lk(c:List Sm)(r:Option Addr)(J:Nat)(p:World)(x:fz p a w i S c r J)(M:l<=b)(H:b<=c.length)(V:c.length<=100000) :
  Calls prog 92 #[.pointer (some ⟨a,0,none⟩),.int .i64 l,.int .i64 b] p fun e G=>e=.returned (.bool (aV c l b))/\G=p:=by
 obtain⟨-,P,U⟩:=x.cells;have F:=hI x.s.2;clear x;go_enter func92,ntmps92;go_wp2
 go_loopg [7,8] (b-l) (fun g o D wr=>∃(k:Nat) (m:Int),(l<=k/\k<=b)/\g=b-k/\o=.int .i64 m/\D=.int .i64 k/\(0<=m/\m<=(k:Int))/\Hid (aV c l b=qE m ((c.drop k).take (b-k)))/\wr=p)
 case atStart=>exact⟨l,0,⟨by omega,by omega⟩,rfl,rfl,rfl,by omega,rfl,rfl⟩
 case round =>
  obtain⟨k,m,⟨I,L⟩,W,rfl,rfl,T,f,rfl⟩:=hrel
  by_cases v:k<b
  ·have y:k<c.length:=by omega
   obtain⟨Q,rfl,C,-,-,-,E⟩:=F.out k c[k] (QP y);have K:=hI (Kw c k b v H);rw[K.out,qE]at f;have B:(k:Int)<(b:Int):=by omega
   have z:(k:Int)<(c.length:Int):=by omega
   generalize c[k]=t at *;obtain⟨N,O,R,h⟩:=t;simp only at E f
   cases q:(h.toList == [36,123])
   ·cases n:(h.toList == [36,125])
    ·have d:Hid (aV c l b=qE m ((c.drop (k+1)).take (b-(k+1)))):=by
      have j:aO m h=m:=by unfold aO;rw[q,n];simp
      have:=f.out;rw[j,QT (by omega)]at this;exact this
     have u:¬m<0:=by omega
     go_wp2
     go_roundg (b-(k+1))
     case measure=>omega
     case rel=>exact⟨k+1,m,⟨by omega,by omega⟩,rfl,rfl,by go_num,by omega,d,rfl⟩
    ·have j:aO m h=m-1:=by unfold aO;rw[q,n];simp
     rw[j]at f
     by_cases A:m-1<0
     ·have d:Hid (aV c l b=false):=by
       have:=f.out;rw[QW A]at this;exact this
      go_wp2;go_ret;exact⟨aD d.out.symm,rfl⟩
     ·have d:Hid (aV c l b=qE (m-1) ((c.drop (k+1)).take (b-(k+1)))):=by
       have:=f.out;rw[QT A]at this;exact this
      go_wp2
      go_roundg (b-(k+1))
      case measure=>omega
      case rel=>exact⟨k+1,m-1,⟨by omega,by omega⟩,rfl,by go_num,by go_num,by omega,d,rfl⟩
   ·cases n:(h.toList == [36,125])
    ·have d:Hid (aV c l b=qE (m+1) ((c.drop (k+1)).take (b-(k+1)))):=by
      have j:aO m h=m+1:=by unfold aO;rw[q,n];simp
      have:=f.out;rw[j,QT (by omega)]at this;exact this
     have u:¬m+1<0:=by omega
     go_wp2
     go_roundg (b-(k+1))
     case measure=>omega
     case rel=>exact⟨k+1,m+1,⟨by omega,by omega⟩,rfl,by go_num,by go_num,by omega,d,rfl⟩
    ·exact(Di q n).elim
  ·have e:k=b:=by omega
   subst e;have d:Hid (aV c l k=true):=by show _=_;rw[f.out,RY,Tq,qE]
   go_wp2;go_ret;exact⟨aD d.out.symm,rfl⟩
def mM(s:ByteArray):Bool:=(s.toList == [36,61])||(s.toList == [36,46])
def ke:List Tk->List ByteArray
 | []=>[]
 | t :: r=>if mM t.s=true then [] else t.s :: ke r
def bu(T:List Tk)(h:Nat):List ByteArray:=ke (T.drop h)
def cU(T:List Tk)(h:Nat):Prop:=∃e,h<=e/\e<T.length/\mM (tS T e)=true
theorem Ge(h:S<w.length):w.drop S=w.getD S jf :: w.drop (S+1):=by
 rw[Rf h,QQ,QP h];rfl
theorem Hh(L:List Tk):(ke L).length<=L.length:=by
 induction L with
 | nil=>exact QR _
 | cons t r a=>rw[ke];split <;> simp <;> omega
theorem kg:(bu w S).length<=w.length:=by
 have:=Hh (w.drop S);rw[RT]at this;unfold bu;omega
structure vj(w wr:World)(h:Hd)(O:List ByteArray):Prop where
 own:aw wr h (aB O)
 far:∀k,h.blk=some k->w.heap.size<=k
 kept:ab [] w wr
theorem vj.nil:vj T T ⟨none,0⟩ []:=⟨QZ _ _ _ _,(by intro k a;cases a),ab.refl _ _⟩
theorem vj.Vb(a:vj k M z4 zb)(b:ab [] M zt):vj k zt z4 zb:=⟨a.own.Vb b,a.far,a.kept.trans b⟩
theorem vj.Vl{f:List ByteArray}(a:vj k M z4 zb)(g:bt M zt z4 z6)(o:aw zt z6 (aB f)):vj k zt z6 f:=by
 refine⟨o,fun c b=>?_,⟨g.kept.os.trans a.kept.os,g.kept.tape.trans a.kept.tape,g.kept.output.trans a.kept.output,Q3 a.kept.size g.kept.size,fun c b _=>?_⟩⟩
 ·rcases g.blk with e | ⟨q,e,d⟩
  ·exact a.far c (by rw[<-e];exact b)
  ·rw[e]at b;cases b
   exact Q3 a.kept.size d
 ·rw[g.kept.block c (QX b a.kept.size) (fun d=>by have:=a.far _ (aN d);omega),a.kept.block c b (by simp)]
theorem pq{f:Array Oper}{b:List Oper}{o:Oper}{a:Act}{Q:Exit->Act->World->Prop}(G:o.guard=none)(s x:Operand)(n:o.op=Op.call { callee:=Callee.builtin Builtin.append,args:=#[s,x],argTypes:=#[61,61] })(h:Hd)(L:List ByteArray)(t:ByteArray)(F:a.eval s=.slice h.ao L.length h.cap)(c:aw T h (aB L))(H:L.length<=1000000)(A:a.eval x=.slice (some ⟨T.heap.size,0,none⟩) 1 1)(C:∀i m,aw m i (aB (L++[t]))->bt T m h i->wpList prog f Q b (a.put o.dst (.slice i.ao (L.length+1) i.cap)) m) :
  wpList prog f Q (o :: b) a (T.alloc (.cells #[.string t] 9)):=by
 obtain⟨z,E,k,p,l⟩:=Re js;have r:ab [] T (T.alloc (.cells #[.string t] 9)):=(ab.refl [] _).alloc _;have v:(T.alloc (.cells #[.string t] 9)).heap[T.heap.size]?=some (.cells #[.string t] 9 (0,0)):=QS _ _;refine aM _ G s x 61 n z (.string ⟨#[]⟩) 16 h (aB L) underlying61 E k p l rfl Rc F (c.Vb r) ⟨T.heap.size,0,none⟩ 1 1 [.string t] A rfl ?_ ?_ Rc (by simp only[aB];unfold maxLen;omega) (by simp only[aB];omega) ?_
 ·intro j u w
  rw[bL,aa v];simpa using w
 ·intro u D
  rw[Q9.1 D];rfl
 ·intro y e B g d q
  rw[dr]at g;exact C ⟨some ⟨y,0,none⟩,e⟩ B g ((bt.Vb r).trans (bt.made d q))
theorem kD(d:List Sm)(B:Option Addr)(cS:Nat)(p:World)(q:fz p l w i S d B cS)(J:b<d.length)(hT:w.length<=100000)(hE:cU w d[b].h) :
  Calls prog 72 #[.pointer (some ⟨l,0,none⟩),.int .i64 b] p fun e W=>∃a,e=.returned (.slice a.ao (bu w d[b].h).length a.cap)/\vj p W a (bu w d[b].h):=by
 obtain⟨gS,rfl,Q,-,-,X,-⟩:=q.s.2 b d[b] (QP J);generalize d[b].h=c at *;obtain⟨e,e1,K,Z⟩:=hE;obtain⟨gT,rfl,al,-⟩:=q.t.2 e _ (iw w e K);have U:=hI q;obtain⟨G,R,hb⟩:=q.cells;have ag:(b:Int)<(d.length:Int):=by omega
 have M:=hI (vj.nil p);clear q;go_enter func72,ntmps72;go_wp2;clear G R X
 go_loopg [5,6] (w.length-c) (fun g o L wr=>∃(k:Nat) (a:Hd) (O:List ByteArray),(c<=k/\k<=e)/\g=w.length-k/\o=.slice a.ao O.length a.cap/\L=.int .i64 k/\O.length<=k/\Hid (O++ke (w.drop k)=bu w c)/\Hid (vj p wr a O))
 case atStart=>exact⟨c,⟨none,0⟩,[],⟨by omega,by omega⟩,rfl,rfl,rfl,Ro _,rfl,M⟩
 case round =>
  obtain⟨k,a,O,⟨T,ac⟩,hg,rfl,rfl,hO,j,z⟩:=hrel;have u:k<w.length:=by omega
  have m:=hI (fz.Vb U.out z.out.kept);obtain⟨G,-,P⟩:=m.out.cells;obtain⟨af,I,ad,E,-⟩:=m.out.t.2 k _ (iw w k u)
  cases I
  replace E:wr.cell? ⟨gT,k*5,none⟩=some (.string (tS w k)):=E;have H:(k:Int)<(w.length:Int):=by omega
  have V:=hI (Ge w k u);rw[V.out,ke]at j;have j:Hid (O++(if mM (tS w k)=true then [] else tS w k :: ke (w.drop (k+1)))=bu w c):=j.out;have r:Hid (k=e->mM (tS w k)=true):=fun h=>by rw[h];exact Z
  obtain⟨x,N⟩:∃x,Hid (tS w k=x):=⟨_,rfl⟩
  rw[N.out]at E j r;have D:=z.out.own;obtain⟨n,Hn⟩:∃n,Hid (w.length=n):=⟨_,rfl⟩
  cases C:(x.toList == [36,61])
  ·cases F:(x.toList == [36,46])
   ·have ai:k<e:=by
     have:¬k=e:=fun h=>by have:=r.out h;unfold mM at this;rw[C,F]at this;cases this
     omega
    have f:Hid ((O++[x])++ke (w.drop (k+1))=bu w c):=by
     have:=j.out;rw[QT (by unfold mM;rw[C,F];simp)]at this
     show _=_
     rw[<-this];simp
    go_wp2_with (at_builtin;refine pq _ rfl (.tmp 37) (.tmp 46) rfl a O x rfl D (by omega) rfl ?_;intro Y w5 v y;have A:=hI (z.out.Vl y v);clear v y)
    go_roundg (w.length-(k+1))
    case measure=>omega
    case rel=>exact⟨k+1,Y,O++[x],⟨by omega,by omega⟩,rfl,by simp,by go_num,by simp;omega,f,A⟩
   ·have f:Hid (bu w c=O):=by
     have:=j.out;rw[QW (by unfold mM;rw[F];simp)]at this
     show _=_
     rw[<-this];simp
    go_wp2;go_ret;exact⟨a,by rw[f.out];rfl,by rw[f.out];exact z.out⟩
  ·have f:Hid (bu w c=O):=by
    have:=j.out;rw[QW (by unfold mM;rw[C];simp)]at this
    show _=_
    rw[<-this];simp
   go_wp2;go_ret;exact⟨a,by rw[f.out];rfl,by rw[f.out];exact z.out⟩
def bG(T:List Tk)(s:Sm):ByteArray:=if(aC s.k||aG s.k)=true then tS T s.a else⟨#[]⟩
theorem nQ(d:List Sm)(p:Option Addr)(I:Nat)(g:World)(n:fz g l w i S d p I)(A:b<d.length)(y:d[b].a<w.length) :
  Calls prog 87 #[.pointer (some ⟨l,0,none⟩),.int .i64 b] g fun e E=>e=.returned (.string (bG w d[b]))/\ab [] g E:=by
 obtain⟨O,rfl,D,G,-,-,B⟩:=n.s.2 b d[b] (QP A);obtain⟨F,rfl,J,o,-⟩:=n.t.2 d[b].a _ (iw w _ y);have j:Hid (bG w d[b]=if(aC d[b].k||aG d[b].k)=true then tS w d[b].a else⟨#[]⟩):=rfl;replace o:g.cell? ⟨F,d[b].a*5,none⟩=some (.string (tS w d[b].a)):=o;generalize bG w d[b]=R at *;generalize d[b]=s at *;obtain⟨q,K,M,f⟩:=s;simp only at G B o j y;obtain⟨x,C⟩:∃x,Hid (tS w q=x):=⟨_,rfl⟩
 rw[C.out]at o j;obtain⟨P,L,N⟩:=n.cells;have H:(b:Int)<(d.length:Int):=by omega
 have z:(q:Int)<(w.length:Int):=by omega
 have u:(0:Int)<=(q:Int):=by omega
 clear n
 cases r:aC f
 ·cases v:aG f
  ·have h:Hid (R=⟨#[]⟩):=by show _=_;rw[j.out,r,v];rfl
   go_enter func87,ntmps87;go_wp2_with (first | (go_at_call 122;refine(fT f _).mono ?_;rintro e m ⟨rfl,c⟩;rw[c];clear c) | (go_at_call 123;refine(lJ f _).mono ?_;rintro e m ⟨rfl,c⟩;rw[c];clear c));go_ret;exact⟨by rw[h.out];rfl,ab.refl _ _⟩
  ·have h:Hid (R=x):=by show _=_;rw[j.out,r,v];rfl
   go_enter func87,ntmps87
   go_upto_region 4 with (first | (go_at_call 122;refine(fT f _).mono ?_;rintro e m ⟨rfl,c⟩;rw[c];clear c) | (go_at_call 123;refine(lJ f _).mono ?_;rintro e m ⟨rfl,c⟩;rw[c];clear c))
   go_region
   all_goals
    go_wp2;go_ret;exact⟨by rw[h.out];rfl,(ab.refl [] g).drew⟩
 ·have h:Hid (R=x):=by show _=_;rw[j.out,r];rfl
  go_enter func87,ntmps87
  go_upto_region 4 with (first | (go_at_call 122;refine(fT f _).mono ?_;rintro e m ⟨rfl,c⟩;rw[c];clear c) | (go_at_call 123;refine(lJ f _).mono ?_;rintro e m ⟨rfl,c⟩;rw[c];clear c))
  go_region
  all_goals
   go_wp2;go_ret;exact⟨by rw[h.out];rfl,(ab.refl [] g).drew⟩
def QM:Sm:=⟨0,0,0,⟨#[]⟩⟩
def au(S:List Sm)(j:Nat):Sm:=S.getD j QM
theorem bM(S:List Sm)(j:Nat)(h:j<S.length):S[j]'h=au S j:=by
 unfold au;rw[QQ,QP h];rfl
def pG(T:List Tk)(S:List Sm)(key x:ByteArray)(n:Nat)(act:Bool)(j:Nat):Bool:=((au S j).k.toList==key.toList)&&(aJ (bu T (au S j).h) x&&(aV S j n || !act))
def jq(T:List Tk)(S:List Sm)(key x:ByteArray)(n:Nat)(act:Bool):Bool:=(List.range n).any (pG T S key x n act)
theorem dU{p:Nat->Bool}(h:∀j,j<v->p j=false)(a:p v=false):∀j,j<v+1->p j=false:=fun j b=>by
 by_cases e:j=v
 ·rw[e];exact a
 ·exact h j (by omega)
theorem oq(c:Bool)(T:List Tk)(u:Option Addr)(N:Nat)(S:List Sm)(G:Option Addr)(U:Nat)(w:World)(X:fz w a T u N S G U)(hn:l<=S.length)(hS:S.length<=100000)(hT:T.length<=100000)(hE:∀j,j<l->((au S j).k.toList==H.toList)=true->cU T (au S j).h) :
  Calls prog 212 #[.pointer (some ⟨a,0,none⟩),.string H,.string n,.int .i64 l,.bool c] w fun e C=>e=.returned (.bool (jq T S H n l c))/\ab [] w C:=by
 have K:=hI X;clear X;go_enter func212,ntmps212;go_wp2
 go_loopg [11] l (fun g i wr=>∃k:Nat,k<=l/\g=l-k/\i=.int .i64 k/\Hid (∀j,j<k->pG T S H n l c j=false)/\Hid (ab [] w wr))
 case atStart=>exact⟨0,by omega,rfl,rfl,(fun j hj=>by omega),ab.refl _ _⟩
 case round =>
  obtain⟨k,hk,hg,rfl,E,A⟩:=hrel
  by_cases r:k<l
  ·have p:k<S.length:=by omega
   have z:=hI (fz.Vb K.out A.out);obtain⟨-,c1,hb⟩:=z.out.cells;obtain⟨gs,rfl,af,-,-,-,q3⟩:=z.out.s.2 k S[k] (QP p);have ad:(k:Int)<(l:Int):=by omega
   have V:(k:Int)<(S.length:Int):=by omega
   have t:Hid (pG T S H n l c k=((S[k].k.toList==H.toList)&&(aJ (bu T S[k].h) n&&(aV S k l || !c)))):=by show _=_;unfold pG;rw[bM S k p]
   have y:Hid ((S[k].k.toList==H.toList)=true->cU T S[k].h):=by have:=hE k r;rw[<-bM S k p]at this;exact this
   have P:Hid ((S[k].k.toList==H.toList)=true->∀m,ab [] w m->Calls prog 72 #[.pointer (some ⟨a,0,none⟩),.int .i64 k] m fun e C=>∃I,e=.returned (.slice I.ao (bu T S[k].h).length I.cap)/\vj m C I (bu T S[k].h)):=fun h m M=>kD a k T u N S _ U m (fz.Vb K.out M) p hT (y.out h)
   have ag:=kg T S[k].h;have D:Hid (∀m,ab [] w m->Calls prog 92 #[.pointer (some ⟨a,0,none⟩),.int .i64 k,.int .i64 l] m fun e C=>e=.returned (.bool (aV S k l))/\C=m):=fun m M=>lk a k l T u N S _ U m (fz.Vb K.out M) (by omega) hn hS
   clear y;generalize bu T S[k].h=B at *;generalize S[k].k=sk at *;obtain⟨L,Q⟩:∃L,Hid (aV S k l=L):=⟨_,rfl⟩
   rw[Q.out]at t D
   cases x:(sk.toList==H.toList)
   ·have f:=hI (dU E.out (by rw[t.out,x];rfl))
    go_wp2
    go_roundg (l-(k+1))
    case measure=>omega
    case rel=>exact⟨k+1,by omega,rfl,by go_num,f,A⟩
   ·have O:=hI (P.out x)
    go_upto_region 6 with (go_at_call 72;refine(O.out _ (by exact A.out)).mono ?_;rintro e W ⟨Y,rfl,F⟩)
    have Z:=hI F;have o:=hI (A.out.trans F.kept);have d:=hI (j9 B Y.ao Y.cap n W F.own.srcX (by omega));clear F c1 q3;obtain⟨R,J⟩:∃R,Hid (aJ B n=R):=⟨_,rfl⟩
    rw[J.out]at d t
    cases R
    ·have f:=hI (dU E.out (by rw[t.out,x];rfl))
     go_wp2_with (go_at_call 93;refine QU d.out ?_;rintro e v ⟨rfl,b⟩;rw[b];clear b)
     go_roundg (l-(k+1))
     case measure=>omega
     case rel=>exact⟨k+1,by omega,rfl,by go_num,f,o⟩
    ·have q:=hI (D.out W o.out)
     cases L
     ·cases c
      ·have f:Hid (jq T S H n l false=true):=mZ k r (by rw[t.out,x];rfl)
       go_wp2_with (first | (go_at_call 93;refine QU d.out ?_;rintro e v ⟨rfl,b⟩;rw[b];clear b) | (go_at_call 92;refine QU q.out ?_;rintro e v ⟨rfl,b⟩;rw[b];clear b));go_ret;exact⟨aD f.out.symm,o.out⟩
      ·have f:=hI (dU E.out (by rw[t.out,x];rfl))
       go_wp2_with (first | (go_at_call 93;refine QU d.out ?_;rintro e v ⟨rfl,b⟩;rw[b];clear b) | (go_at_call 92;refine QU q.out ?_;rintro e v ⟨rfl,b⟩;rw[b];clear b))
       go_roundg (l-(k+1))
       case measure=>omega
       case rel=>exact⟨k+1,by omega,rfl,by go_num,f,o⟩
     ·have f:Hid (jq T S H n l c=true):=mZ k r (by rw[t.out,x];simp)
      go_wp2_with (first | (go_at_call 93;refine QU d.out ?_;rintro e v ⟨rfl,b⟩;rw[b];clear b) | (go_at_call 92;refine QU q.out ?_;rintro e v ⟨rfl,b⟩;rw[b];clear b));go_ret;exact⟨aD f.out.symm,o.out⟩
  ·have f:Hid (jq T S H n l c=false):=vH (fun j hj=>E.out j (by omega))
   go_wp2;go_ret;exact⟨aD f.out.symm,A.out⟩
def vi(T:List Tk)(S:List Sm)(n:Nat)(key:List UInt8):Prop:=∀j,j<n->((au S j).k.toList==key)=true->cU T (au S j).h
theorem nR:(⟨#[36,99]⟩:ByteArray).toList=[36,99]/\(⟨#[36,118]⟩:ByteArray).toList=[36,118]:=by decide +kernel
def eF(T:List Tk)(S:List Sm)(x:ByteArray)(n:Nat):Bool:=jq T S ⟨#[36,99]⟩ x n false
def kZ(T:List Tk)(S:List Sm)(x:ByteArray)(n:Nat):Bool:=jq T S ⟨#[36,118]⟩ x n true
theorem tM(b:List Sm)(c:Option Addr)(f:Nat)(d:World)(m:fz d a w i S b c f)(o:l<=b.length)(h:b.length<=100000)(g:w.length<=100000)(k:vi w b l [36,99]) :
  Calls prog 172 #[.pointer (some ⟨a,0,none⟩),.string H,.int .i64 l] d fun e p=>e=.returned (.bool (eF w b H l))/\ab [] d p:=by
 have j:=hI (oq a l ⟨#[36,99]⟩ H false w i S b c f d m o h g (by rw[nR.1];exact k));go_enter func172,ntmps172;go_wp2_with fail;refine QU j.out ?_;rintro e q ⟨rfl,n⟩;go_wp2;go_ret;exact⟨rfl,n⟩
theorem AJ(b:List Sm)(c:Option Addr)(f:Nat)(d:World)(m:fz d a w i S b c f)(o:l<=b.length)(h:b.length<=100000)(g:w.length<=100000)(k:vi w b l [36,118]) :
  Calls prog 173 #[.pointer (some ⟨a,0,none⟩),.string H,.int .i64 l] d fun e p=>e=.returned (.bool (kZ w b H l))/\ab [] d p:=by
 have j:=hI (oq a l ⟨#[36,118]⟩ H true w i S b c f d m o h g (by rw[nR.2];exact k));go_enter func173,ntmps173;go_wp2_with fail;refine QU j.out ?_;rintro e q ⟨rfl,n⟩;go_wp2;go_ret;exact⟨rfl,n⟩
def qL(T:List Tk)(S:List Sm)(x:ByteArray)(j:Nat):Bool:=!((bG T (au S j)).toList == [])&&((bG T (au S j)).toList==x.toList)
def bE(T:List Tk)(S:List Sm)(x:ByteArray)(n:Nat):Int:=match (List.range n).find? (qL T S x) with
 | some j=>j
 | none=>-1
theorem Af{S:List Sm}(a:z0<v)(h:qL d S D z0=true)(c:∀j,j<z0->qL d S D j=false):bE d S D v=z0:=by
 have e:(List.range v).find? (qL d S D)=some z0:=by
  rw[Sj];exact⟨h,Ra.2 a,fun j b=>by rw[c j b];rfl⟩
 unfold bE;rw[e]
theorem Ci{S:List Sm}(b:∀j,j<v->qL d S D j=false):bE d S D v=-1:=by
 have e:(List.range v).find? (qL d S D)=none:=by
  rw[Sk];intro j a;rw[b j (Ra.1 a)];simp
 unfold bE;rw[e]
theorem oC(b:List Sm)(m:Option Addr)(z:Nat)(r:World)(u:fz r a w i S b m z)(I:l<=b.length)(J:b.length<=100000)(F:∀j,j<l->(au b j).a<w.length) :
  Calls prog 171 #[.pointer (some ⟨a,0,none⟩),.string H,.int .i64 l] r fun e E=>e=.returned (.int .i64 (bE w b H l))/\ab [] r E:=by
 have D:=hI u;clear u;go_enter func171,ntmps171;go_wp2
 go_loopg [7] l (fun g C wr=>∃k:Nat,k<=l/\g=l-k/\C=.int .i64 k/\Hid (∀j,j<k->qL w b H j=false)/\Hid (ab [] r wr))
 case atStart=>exact⟨0,by omega,rfl,rfl,(fun j B=>by omega),ab.refl _ _⟩
 case round =>
  obtain⟨k,G,K,rfl,q,n⟩:=hrel
  by_cases o:k<l
  ·have h:k<b.length:=by omega
   have A:(k:Int)<(l:Int):=by omega
   have s:Hid (qL w b H k=(!((bG w b[k]).toList == [])&&((bG w b[k]).toList==H.toList))):=by show _=_;unfold qL;rw[bM b k h]
   have f:=hI (nQ a k w i S b m z wr (fz.Vb D.out n.out) h (by rw[bM b k h];exact F k o));generalize bG w b[k]=y at *
   cases v:(y.toList == [])
   ·cases x:(y.toList==H.toList)
    ·have d:=hI (dU q.out (by rw[s.out,x];simp))
     go_wp2_with (go_at_call 87;refine QU f.out ?_;rintro e t ⟨rfl,p⟩;have c:=hI (n.out.trans p))
     go_roundg (l-(k+1))
     case measure=>omega
     case rel=>exact⟨k+1,by omega,rfl,by go_num,d,c⟩
    ·have d:Hid (bE w b H l=k):=Af o (by rw[s.out,v,x];rfl) q.out
     go_wp2_with (go_at_call 87;refine QU f.out ?_;rintro e t ⟨rfl,p⟩;have c:=hI (n.out.trans p));go_ret;exact⟨QN d.out.symm,c.out⟩
   ·have d:=hI (dU q.out (by rw[s.out,v];rfl))
    go_wp2_with (go_at_call 87;refine QU f.out ?_;rintro e t ⟨rfl,p⟩;have c:=hI (n.out.trans p))
    go_roundg (l-(k+1))
    case measure=>omega
    case rel=>exact⟨k+1,by omega,rfl,by go_num,d,c⟩
  ·have d:Hid (bE w b H l=-1):=Ci (fun j B=>q.out j (by omega))
   go_wp2;go_ret;exact⟨QN d.out.symm,n.out⟩
structure il(T:List Tk)(S:List Sm)(n:Nat):Prop where
 m:n<=S.length
 s:S.length<=100000
 t:T.length<=100000
 c:vi T S n [36,99]
 v:vi T S n [36,118]
 a:∀j,j<n->(au S j).a<T.length
def jC(T:List Tk)(S:List Sm)(x:ByteArray)(n:Nat):Bool:=decide (0<=bE T S x n)||(eF T S x n||jq T S ⟨#[36,118]⟩ x n false)
theorem xq(b:List Sm)(g:Option Addr)(p:Nat)(h:World)(o:fz h a w i S b g p)(f:il w b l) :
  Calls prog 170 #[.pointer (some ⟨a,0,none⟩),.string H,.int .i64 l] h fun e j=>e=.returned (.bool (jC w b H l))/\ab [] h j:=by
 have D:=hI (oC a l H w i S b g p h o f.m f.s f.a);have q:Hid (∀d,ab [] h d->Calls prog 172 #[.pointer (some ⟨a,0,none⟩),.string H,.int .i64 l] d fun e j=>e=.returned (.bool (eF w b H l))/\ab [] d j):=fun d k=>tM a l H w i S b g p d (o.Vb k) f.m f.s f.t f.c
 have y:Hid (∀d,ab [] h d->Calls prog 212 #[.pointer (some ⟨a,0,none⟩),.string ⟨#[36,118]⟩,.string H,.int .i64 l,.bool false] d fun e j=>e=.returned (.bool (jq w b ⟨#[36,118]⟩ H l false))/\ab [] d j):=fun d k=>oq a l ⟨#[36,118]⟩ H false w i S b g p d (o.Vb k) f.m f.s f.t (by rw[nR.2];exact f.v)
 have r:Hid (jC w b H l=(decide (0<=bE w b H l)||(eF w b H l||jq w b ⟨#[36,118]⟩ H l false))):=rfl;generalize jC w b H l=R at *;generalize bE w b H l=E at *;generalize eF w b H l=c at *;generalize jq w b ⟨#[36,118]⟩ H l false=v at *;clear o;go_enter func170,ntmps170
 go_upto_region 2 with (go_at_call 171;refine QU D.out ?_;rintro e F ⟨rfl,x⟩)
 have q:=hI (q.out F x)
 go_upto_region 3 with (go_at_call 172;refine QU q.out ?_;rintro e B ⟨rfl,z⟩)
 have y:=hI (y.out B (x.trans z))
 go_upto_region 4 with (go_at_call 212;refine QU y.out ?_;rintro e G ⟨rfl,C⟩)
 have u:=(show Hid _ from(x.trans z).trans C)
 by_cases A:0<=E
 ·have n:Hid (R=true):=by show _=_;rw[r.out];simp[A]
  go_wp2;go_ret;exact⟨aD n.out.symm,u.out⟩
 ·cases c
  ·have n:Hid (R=v):=by show _=_;rw[r.out];simp[A]
   go_wp2;go_ret;exact⟨aD n.out.symm,u.out⟩
  ·have n:Hid (R=true):=by show _=_;rw[r.out];simp
   go_wp2;go_ret;exact⟨aD n.out.symm,u.out⟩
def jW(T:List Tk)(S:List Sm)(x:ByteArray)(n:Nat)(con:Bool)(before:List ByteArray):Int :=
 if aJ before x=true then 13 else if(con&&jC T S x n)=true then 13 else if(!con&&(decide (0<=bE T S x n)||(eF T S x n||kZ T S x n)))=true then 13 else 0
theorem IU(g:Bool)(d:List ByteArray)(r:Option Addr)(K:Nat)(T:List Tk)(o:Option Addr)(A:Nat)(S:List Sm)(j:Option Addr)(C:Nat)(w:World)(B:fz w b T o A S j C)(i:il T S x)(V:ge w r d)(N:d.length<=1000000) :
  Calls prog 125 #[.pointer (some ⟨b,0,none⟩),.string n,.int .i64 x,.bool g,.slice r d.length K] w fun e u=>e=.returned (.int .i64 (jW T S n x g d))/\ab [] w u:=by
 have M:=hI (j9 d r K n w V (by omega));have I:=hI (xq b x n T o A S j C w B i);have D:Hid (∀f,ab [] w f->Calls prog 171 #[.pointer (some ⟨b,0,none⟩),.string n,.int .i64 x] f fun e u=>e=.returned (.int .i64 (bE T S n x))/\ab [] f u):=fun f k=>oC b x n T o A S j C f (B.Vb k) i.m i.s i.a
 have F:Hid (∀f,ab [] w f->Calls prog 172 #[.pointer (some ⟨b,0,none⟩),.string n,.int .i64 x] f fun e u=>e=.returned (.bool (eF T S n x))/\ab [] f u):=fun f k=>tM b x n T o A S j C f (B.Vb k) i.m i.s i.t i.c
 have G:Hid (∀f,ab [] w f->Calls prog 173 #[.pointer (some ⟨b,0,none⟩),.string n,.int .i64 x] f fun e u=>e=.returned (.bool (kZ T S n x))/\ab [] f u):=fun f k=>AJ b x n T o A S j C f (B.Vb k) i.m i.s i.t i.v
 have p:Hid (jW T S n x g d=if aJ d n=true then 13 else if(g&&jC T S n x)=true then 13 else if(!g&&(decide (0<=bE T S n x)||(eF T S n x||kZ T S n x)))=true then 13 else 0):=rfl;generalize jW T S n x g d=R at *;generalize aJ d n=Q at *;generalize jC T S n x=O at *;generalize bE T S n x=l at *;generalize eF T S n x=c at *;generalize kZ T S n x=v at *;clear B;go_enter func125,ntmps125
 go_upto_region 2 with (go_at_call 93;refine QU M.out ?_;rintro e X ⟨rfl,y⟩;rw[y];clear y)
 go_upto_region 3 with (go_at_call 170;refine QU I.out ?_;rintro e W ⟨rfl,z⟩)
 have D:=hI (D.out W z)
 go_upto_region 4 with (go_at_call 171;refine QU D.out ?_;rintro e P ⟨rfl,E⟩)
 have F:=hI (F.out P (z.trans E))
 go_upto_region 5 with (go_at_call 172;refine QU F.out ?_;rintro e U ⟨rfl,H⟩)
 have G:=hI (G.out U ((z.trans E).trans H))
 go_upto_region 6 with (go_at_call 173;refine QU G.out ?_;rintro e Y ⟨rfl,L⟩)
 have q:=(show Hid _ from((z.trans E).trans H).trans L);clear M I D F G z E H L
 cases Q
 ·cases g
  ·by_cases J:0<=l
   ·have h:Hid (R=13):=by show _=_;rw[p.out];simp[J]
    go_wp2;go_ret;exact⟨QN h.out.symm,q.out⟩
   ·cases c
    ·cases v
     ·have h:Hid (R=0):=by show _=_;rw[p.out];simp[J]
      go_wp2;go_ret;exact⟨QN h.out.symm,q.out⟩
     ·have h:Hid (R=13):=by show _=_;rw[p.out];simp
      go_wp2;go_ret;exact⟨QN h.out.symm,q.out⟩
    ·have h:Hid (R=13):=by show _=_;rw[p.out];simp
     go_wp2;go_ret;exact⟨QN h.out.symm,q.out⟩
  ·cases O
   ·have h:Hid (R=0):=by show _=_;rw[p.out];simp
    go_wp2;go_ret;exact⟨QN h.out.symm,q.out⟩
   ·have h:Hid (R=13):=by show _=_;rw[p.out];simp
    go_wp2;go_ret;exact⟨QN h.out.symm,q.out⟩
 ·have h:Hid (R=13):=by show _=_;rw[p.out];simp
  go_wp2;go_ret;exact⟨QN h.out.symm,q.out⟩
def ip(key:ByteArray)(before:List ByteArray):Int :=
 if before.length=0 then 15 else if(((key.toList == [36,100])||(key.toList == [36,102]))&&decide (before.length<2))=true then 15 else if((key.toList == [36,112]) && !(aJ before ⟨#[36,61]⟩))=true then 23 else 0
theorem Bn(k:ge T i y)(o:y.length<=1000000) :
  Calls prog 124 #[.string H,.slice i y.length x] T fun e q=>e=.returned (.int .i64 (ip H y))/\q=T:=by
 have l:=hI (j9 y i x ⟨#[36,61]⟩ T k (by omega));have b:Hid (ip H y=if y.length=0 then 15 else if(((H.toList == [36,100])||(H.toList == [36,102]))&&decide (y.length<2))=true then 15 else if((H.toList == [36,112]) && !(aJ y ⟨#[36,61]⟩))=true then 23 else 0):=rfl;generalize ip H y=R at *;generalize aJ y ⟨#[36,61]⟩=m at *;generalize y.length=n at *;clear k
 by_cases c:n=0
 ·have r:Hid (R=15):=by show _=_;rw[b.out,QW c]
  subst c;go_enter func124,ntmps124;go_wp2_with (go_at_call 93;refine QU l.out ?_;rintro e p ⟨rfl,a⟩;rw[a];clear a);go_ret;exact⟨QN r.out.symm,rfl⟩
 ·rw[QT c]at b
  have s:((n:Int)==0)=false:=by simpa using c
  go_enter func124,ntmps124
  go_upto_region 3 with (go_at_call 93;refine QU l.out ?_;rintro e p ⟨rfl,a⟩;rw[a];clear a)
  by_cases j:n<2
  ·have d:(n:Int)<2:=by omega
   cases g:(H.toList == [36,100]) <;> cases f:(H.toList == [36,102]) <;> cases h:(H.toList == [36,112]) <;> cases m
   all_goals
    go_wp2;go_ret;exact⟨QN (by rw[b.out];simp[j,g,f,h]),rfl⟩
  ·have d:¬(n:Int)<2:=by omega
   cases g:(H.toList == [36,100]) <;> cases f:(H.toList == [36,102]) <;> cases h:(H.toList == [36,112]) <;> cases m
   all_goals
    go_wp2;go_ret;exact⟨QN (by rw[b.out];simp[j,g,f,h]),rfl⟩
theorem Ag(L:n.size<=1073741824) :
  Calls prog 169 #[.string n] T fun e G=>e=.returned (.bool (gG n))/\G=T:=by
 go_enter func169,ntmps169;go_wp2
 go_loopg [3] n.size (fun g i wr=>∃k:Nat,k<=n.size/\g=n.size-k/\i=.int .i64 k/\Hid (∀i,i<k->jA (aF n i)=true)/\wr=T)
 case atStart=>exact⟨0,by omega,by omega,rfl,fun i h=>by omega,rfl⟩
 case round =>
  obtain⟨k,K,M,rfl,b,rfl⟩:=hrel
  by_cases f:k<n.size
  ·have q:Hid (jA (n[k].toNat:Int)=false->gG n=false):=fun y=>DF k f (by rw[bP n k f];exact y)
   have s:Hid (jA (n[k].toNat:Int)=true->∀i,i<k+1->jA (aF n i)=true):=fun y i I=>by
    by_cases e:i=k
    ·subst e;rw[bP n i f];exact y
    ·exact b.out i (by omega)
   have B:(k:Int)<(n.size:Int):=by omega
   go_upto_region 5 with fail
   obtain⟨c,z⟩:∃c:Int,(n[k].toNat:Int)=c:=⟨_,rfl⟩
   have H:=hI z;clear z;rw[H.out]at q s ⊢
   go_cut [5] from 18 to 23 (fun C l=>C=.bool (decide (97<=c)&&decide (c<=122))/\l=wr)
   case first =>
    by_cases p:97<=c
    ·by_cases r:c<=122
     ·go_wp2_with fail
      go_meet
      case rel=>exact⟨by simp;omega,rfl⟩
     ·go_wp2_with fail
      go_meet
      case rel=>exact⟨by simp;omega,rfl⟩
    ·go_wp2_with fail
     go_meet
     case rel=>exact⟨by simp;omega,rfl⟩
   case rest =>
    obtain⟨rfl,a⟩:=hcut;subst a;obtain⟨u,j⟩:∃u,Hid ((decide (97<=c)&&decide (c<=122))=u):=⟨_,rfl⟩
    rw[j.out]
    go_upto_region 6 with fail
    go_cut [6] from 24 to 29 (fun D l=>D=.bool (decide (65<=c)&&decide (c<=90))/\l=wc)
    case first =>
     by_cases p:65<=c
     ·by_cases r:c<=90
      ·go_wp2_with fail
       go_meet
       case rel=>exact⟨by simp;omega,rfl⟩
      ·go_wp2_with fail
       go_meet
       case rel=>exact⟨by simp;omega,rfl⟩
     ·go_wp2_with fail
      go_meet
      case rel=>exact⟨by simp;omega,rfl⟩
    case rest =>
     obtain⟨rfl,a⟩:=hcut;subst a;obtain⟨t,m⟩:∃t,Hid ((decide (65<=c)&&decide (c<=90))=t):=⟨_,rfl⟩
     rw[m.out]
     go_upto_region 7 with fail
     go_cut [7] from 30 to 35 (fun J l=>J=.bool (decide (48<=c)&&decide (c<=57))/\l=wc)
     case first =>
      by_cases p:48<=c
      ·by_cases r:c<=57
       ·go_wp2_with fail
        go_meet
        case rel=>exact⟨by simp;omega,rfl⟩
       ·go_wp2_with fail
        go_meet
        case rel=>exact⟨by simp;omega,rfl⟩
      ·go_wp2_with fail
       go_meet
       case rel=>exact⟨by simp;omega,rfl⟩
     case rest =>
      obtain⟨rfl,a⟩:=hcut;subst a;obtain⟨w,d⟩:∃w,Hid ((decide (48<=c)&&decide (c<=57))=w):=⟨_,rfl⟩
      rw[d.out]
      go_upto_region 8 with fail
      go_cut [8] from 36 to 45 (fun F l=>F=.bool ((c==45)||(c==95)||(c==46))/\l=wc)
      case first =>
       cases p:(c==45)
       ·cases r:(c==95)
        ·go_wp2_with fail
         go_meet
         case rel=>exact⟨by rw[p,r];simp,rfl⟩
        ·go_wp2_with fail
         go_meet
         case rel=>exact⟨by rw[p,r];simp,rfl⟩
       ·go_wp2_with fail
        go_meet
        case rel=>exact⟨by rw[p];simp,rfl⟩
      case rest =>
       obtain⟨rfl,a⟩:=hcut;subst a;obtain⟨v,o⟩:∃v,Hid (((c==45)||(c==95)||(c==46))=v):=⟨_,rfl⟩
       rw[o.out];have A:Hid (jA c=(u||(t||(w||v)))):=by show _=_;rw[<-j.out,<-m.out,<-d.out,<-o.out];unfold jA;simp only[Bool.or_assoc]
       clear j m d o
       cases u <;> cases t <;> cases w <;> cases v
       ·have x:=hI (q.out (by rw[A.out];rfl))
        go_wp2;go_ret;exact⟨aD x.out.symm,rfl⟩
       all_goals
        have x:=hI (s.out (by rw[A.out];rfl));go_wp2
        go_roundg (n.size-(k+1))
        case measure=>omega
        case rel=>exact⟨k+1,by omega,rfl,by go_num,x,rfl⟩
  ·have E:Hid (gG n=true):=zC (fun i I=>b.out i (by omega))
   go_wp2;go_ret;exact⟨aD E.out.symm,rfl⟩
def dw(T:List Tk)(S:List Sm)(x:ByteArray)(n:Nat):Int :=
 if((x.toList == [36,123])||((x.toList == [36,118])||(x.toList == [36,100])))=true then 0
 else if((x.toList == [36,125])&&(bb S n==0))=true then 9
 else if(x.toList == [36,125])=true then 0
 else if((x.toList == [36,99])&&decide (0<bb S n))=true then 10
 else if(x.toList == [36,99])=true then 0
 else if(aC x||aG x)=true then 11
 else if ii x ⟨#[36]⟩=true then 8
 else if gG x=false then 12
 else if jC T S x n=true then 13 else 0
theorem Ea(j:List Sm)(p:Option Addr)(v:Nat)(q:World)(t:fz q a w i S j p v)(u:il w j l)(F:H.size<=1073741824) :
  Calls prog 121 #[.pointer (some ⟨a,0,none⟩),.string H,.int .i64 l] q fun e G=>e=.returned (.int .i64 (dw w j H l))/\ab [] q G:=by
 have C:=hI (DT a l w i S j p v q t u.m u.s);have x:=hI (xq a l H w i S j p v q t u)
 have d:Hid (dw w j H l=if((H.toList == [36,123])||((H.toList == [36,118])||(H.toList == [36,100])))=true then 0
  else if((H.toList == [36,125])&&(bb j l==0))=true then 9
  else if(H.toList == [36,125])=true then 0
  else if((H.toList == [36,99])&&decide (0<bb j l))=true then 10
  else if(H.toList == [36,99])=true then 0
  else if(aC H||aG H)=true then 11
  else if ii H ⟨#[36]⟩=true then 8
  else if gG H=false then 12
  else if jC w j H l=true then 13 else 0):=rfl
 generalize dw w j H l=R at *;generalize bb j l=z at *;generalize jC w j H l=E at *;clear t;go_enter func121,ntmps121
 go_upto_region 5 with (first | (go_at_call 168;refine QU C.out ?_;rintro e r ⟨rfl,b⟩;rw[b];clear b) | (go_at_call 120;refine(fF H _ _ (by omega) (by show 1<=_;omega)).mono ?_;rintro e r ⟨rfl,b⟩;rw[b];clear b) | (go_at_call 169;refine(Ag H _ F).mono ?_;rintro e r ⟨rfl,b⟩;rw[b];clear b) | (go_at_call 170;refine QU x.out ?_;rintro e L ⟨rfl,A⟩))
 go_upto_region 7 with (first | (go_at_call 122;refine(fT H _).mono ?_;rintro e r ⟨rfl,b⟩;rw[b];clear b) | (go_at_call 123;refine(lJ H _).mono ?_;rintro e r ⟨rfl,b⟩;rw[b];clear b))
 have f:=hI A;generalize aC H=D at *;generalize aG H=J at *;generalize ii H ⟨#[36]⟩=K at *;generalize gG H=I at *;clear C x A
 cases g:(H.toList == [36,123])
 ·cases h:(H.toList == [36,118])
  ·cases k:(H.toList == [36,100])
   ·cases n:(H.toList == [36,125])
    ·cases o:(H.toList == [36,99])
     ·cases D
      ·cases J
       ·cases K
        ·cases I
         ·have c:Hid (R=12):=by show _=_;rw[d.out];simp[g,h,k,n,o]
          go_wp2;go_ret;exact⟨QN c.out.symm,f.out⟩
         ·cases E
          ·have c:Hid (R=0):=by show _=_;rw[d.out];simp[g,h,k,n,o]
           go_wp2;go_ret;exact⟨QN c.out.symm,f.out⟩
          ·have c:Hid (R=13):=by show _=_;rw[d.out];simp[g,h,k,n,o]
           go_wp2;go_ret;exact⟨QN c.out.symm,f.out⟩
        ·have c:Hid (R=8):=by show _=_;rw[d.out];simp[g,h,k,n,o]
         go_wp2;go_ret;exact⟨QN c.out.symm,f.out⟩
       ·have c:Hid (R=11):=by show _=_;rw[d.out];simp[g,h,k,n,o]
        go_wp2;go_ret;exact⟨QN c.out.symm,f.out⟩
      ·have c:Hid (R=11):=by show _=_;rw[d.out];simp[g,h,k,n,o]
       go_wp2;go_ret;exact⟨QN c.out.symm,f.out⟩
     ·by_cases y:0<z
      ·have c:Hid (R=10):=by show _=_;rw[d.out];simp[g,h,k,n,o,y]
       go_wp2;go_ret;exact⟨QN c.out.symm,f.out⟩
      ·have c:Hid (R=0):=by show _=_;rw[d.out];simp[g,h,k,n,o,y]
       go_wp2;go_ret;exact⟨QN c.out.symm,f.out⟩
    ·cases B:(z==0)
     ·have c:Hid (R=0):=by show _=_;rw[d.out];simp[g,h,k,n,B]
      go_wp2;go_ret;exact⟨QN c.out.symm,f.out⟩
     ·have c:Hid (R=9):=by show _=_;rw[d.out];simp[g,h,k,n,B]
      go_wp2;go_ret;exact⟨QN c.out.symm,f.out⟩
   ·have c:Hid (R=0):=by show _=_;rw[d.out];simp[g,h,k]
    go_wp2;go_ret;exact⟨QN c.out.symm,f.out⟩
  ·have c:Hid (R=0):=by show _=_;rw[d.out];simp[g,h]
   go_wp2;go_ret;exact⟨QN c.out.symm,f.out⟩
 ·have c:Hid (R=0):=by show _=_;rw[d.out];simp[g]
  go_wp2;go_ret;exact⟨QN c.out.symm,f.out⟩
end Go.Proofs.YtpddjjabfbfifaaGreat
