import Derived.Deep.RegionHeld3
import Derived.Test.YtnbhnocdhbcbcaaGreatK13
namespace Go.Proofs.YtnbhnocdhbcbcaaGreat
open Go.RowKit Tryz
open Value IntKind Ending
set_option maxHeartbeats 0
variable{i s:World}{y z0 z4:Nat}{g:Fs}{c:List Bool}{z5 z6:Hd}{v m:List Tk}{z7:Nat->List Bool->List Tk->List Tk×List Bool}{M:Tk}{N:Xs}{u zt:Xu}{y0:Xt}(L:Nat)(f:Fs)(n:Nat)(o:Xs)(l:Nat)(H:List Tk)(k:Xt)(I:Xu)(D:Nat)(d:Xs)(S:World)(x:Nat)
def LX(w:World)(gs:Nat)(sn:List Bool)(h:Hd)(out:List Tk)(R:List Tk×List Bool)(e:Ending)(w':World):Prop :=
 ∃h',e=returned (slice h'.ao R.1.length h'.cap)/\aB w' h' (jh R.1)/\gU w' gs R.2/\za w w' gs h h'/\R.2.length=sn.length/\R.1.length+2000*aV R.2<=out.length+2000*aV sn/\aV R.2<=aV sn
structure LN(w wr:World)(gf cap:Nat)(fs:Fs)(gs:Nat)(sn:List Bool)(h h':Hd)(O:List Tk)(gT capT:Nat)(T:List Tk):Prop where
 i:wk wr gf cap fs gs sn h' O
 r:za w wr gs h h'
 t:aB wr ⟨some ⟨gT,0,none⟩,capT⟩ (jh T)
 b1:h'.XR≠some gT
 b2:gT≠gs
section
variable {w wr wr':World} {gf cap:Nat} {fs:Fs} {gs:Nat} {sn sn':List Bool} {h h' h'':Hd} {O O':List Tk} {gT capT:Nat} {T:List Tk}
theorem LN.turn(a:LN w wr gf cap fs gs sn h h' O gT capT T)(r:za wr wr' gs h' h'')(o:aB wr' h'' (jh O'))(s:gU wr' gs sn'):LN w wr' gf cap fs gs sn' h h'' O' gT capT T:=by
 have f:gT<wr.heap.size:=a.t.lt rfl;refine⟨a.i.turn r o s,a.r.trans r,a.t.XI (fun q c=>r.XQ.block q (a.t.lt c) (fun b=>?_)),?_,a.b2⟩
 ·have e:q=gT:=by cases c;rfl
  subst e;rcases Ua.1 b with e | b
  ·exact a.b2 e
  ·exact a.b1 (aQ b)
 ·rcases r.XR with e | ⟨g,e,d⟩
  ·rw[e];exact a.b1
  ·rw[e];intro q;cases q;omega
theorem LN.XN(a:LN w wr gf cap fs gs sn h h' O gT capT T)(g:bq wr wr' h' h'')(o:aB wr' h'' (jh O')):LN w wr' gf cap fs gs sn h h'' O' gT capT T :=
 a.turn (za.of g) o (a.i.seen.XQ g.XQ (fun b=>a.i.a1 (aQ b)))
theorem LN.XD(a:LN w wr gf cap fs gs sn h h' O gT capT T)(k:ae [] wr wr'):LN w wr' gf cap fs gs sn h h' O gT capT T :=
 a.XN (bq.XD k) (a.i.X6.XD k)
end
theorem pN{b:List Bool}{j d:Nat}{T:List Tk}{R:List Tk×List Bool}(a:LN i s y z0 g z4 b z5 z6 m j d T)(e:R=(m,b))(n:b.length=c.length)(k:m.length+2000*aV b<=v.length+2000*aV c)(l:aV b<=aV c){f:Nat}(o:f=m.length):LX i z4 c z5 v R (returned (slice z6.ao f z6.cap)) s:=by
 subst e;subst o;exact⟨z6,rfl,a.i.X6,a.i.seen,a.r,n,k,l⟩
theorem Ai(h:((M.X3==0)&&(M.s.toList == []))=true):cZ z7 g (M :: v) c m=((if dG m=true then m else m++[rY M 7]),c):=by
 rw[cZ.eq_def];simp only;rw[Tq h]
theorem Gb(h:((M.X3==0)&&(M.s.toList == []))=false)(a:(M.s.toList == [36,91])=false):cZ z7 g (M :: v) c m=cZ z7 g v c (m++[M]):=by
 rw[cZ.eq_def];simp only;rw[To (by rw[h];simp),Tq a]
theorem KL(h:((M.X3==0)&&(M.s.toList == []))=false)(a:(M.s.toList == [36,91])=true)(b:dG m=false):cZ z7 g (M :: v) c m=(m++[rY M 4],c):=by
 rw[cZ.eq_def];simp only;rw[To (by rw[h];simp),To (by rw[a];simp),Tq b]
theorem DT{a:Tk}(h:((M.X3==0)&&(M.s.toList == []))=false)(d:(M.s.toList == [36,91])=true)(e:dG m=true)(f:(dJ g a.s a.X3==0)=false):cZ z7 g (M :: a :: v) c m=(m++[rY a (dJ g a.s a.X3)],c):=by
 rw[cZ.eq_def];simp only;rw[To (by rw[h];simp),To (by rw[d];simp),To (by rw[e];simp)];cases v with
 | nil=>rfl
 | cons b v=>simp only;rw[Tq f]
theorem KJ{rec:Nat->List Bool->List Tk->List Tk×List Bool}{fs:Fs}{t a b:Tk}{r:List Tk}{sn:List Bool}(h:((t.X3==0)&&(t.s.toList == []))=false)(c:(t.s.toList == [36,91])=true)(d:dG v=true)(e:(dJ fs a.s a.X3==0)=true):cZ rec fs (t :: a :: b :: r) sn v =
  if(eB b.s b.X3==0)=false then(v++[rY b (eB b.s b.X3)],sn)
  else if sn.getD (bS fs a.s).toNat true=true then cZ rec fs r sn v
  else if fj (rec (bS fs a.s).toNat sn v).1=true then rec (bS fs a.s).toNat sn v
  else cZ rec fs r (rec (bS fs a.s).toNat sn v).2 (rec (bS fs a.s).toNat sn v).1:=by
 rw[cZ.eq_def];simp only;rw[To (by rw[h];simp),To (by rw[c];simp),To (by rw[d];simp),To (by rw[e];simp)]
theorem C2(a:Fs)(i:Nat):dQ d a i<(i:Int)+a.length∨a.length=0:=by
 induction a generalizing i with
 | nil=>exact TA rfl
 | cons f r b =>
  left
  rw[dQ];split
  ·simp;omega
  ·rcases b (i+1) with h | h
   ·simp at h ⊢;omega
   ·rw[Ue h,dQ];simp;omega
theorem O9(h:0<=bS g N):bS g N<g.length:=by
 unfold bS at h ⊢;rcases C2 N g 0 with e | e
 ·simpa using e
 ·rw[Ue e,dQ]at h;omega
theorem FJ{r:Int}(h:(dJ g N r==0)=true):(N.toList == [])=false/\0<=bS g N:=by
 unfold dJ at h;cases a:(r==0)
 ·rw[Tq a,a]at h;cases h
 ·rw[To (by rw[a];simp)]at h;cases b:(N.toList == [])
  ·rw[To (by rw[b];simp)]at h;refine⟨rfl,?_⟩;split at h
   ·cases h
   ·split at h
    ·cases h
    ·omega
  ·rw[Tq b]at h;cases h
set_option maxRecDepth 100000
theorem KM(cT:f.length<=4)(cq:∀k,(ak f k).size<=1024)(n:Nat):∀(k:Nat) (m:List Bool) (j:List Tk) (h:Hd) (L F:Nat) (w:World),aV m<=n->m.length=f.length->f.length<=F->k<f.length->m[k]?=some false->j.length+2000*aV m<=100000->wk w D x f L m h j ->
  Calls prog 83 #[slice (some ⟨D,0,none⟩) f.length x,int i64 k,slice (some ⟨L,0,none⟩) f.length F,slice h.ao j.length h.cap] w fun e w'=>LX w L m h j (eS f n k m j) e w':=by
 induction n with
 | zero=>intro k m j h L F w hn b4 b3 hk hs;have:=GG m k hs;omega
 | succ n ih =>
  intro k m j h L F w hn b4 b3 hk hs hb hI;have cf:Xr _:=ih;clear ih;have c6:(k:Int)<f.length:=by omega
  have s0:=hI.seen.cell k false hs;have s1:=am hI.seen k;have k1:ae [L] w (w.setCell ⟨L,k,none⟩ (bool true)):=(ae.refl [L] w).sl1 _;obtain⟨w1,ax⟩:=bn (w.setCell ⟨L,k,none⟩ (bool true));rw[ax.o]at k1;have R1:za w w1 L h h:=⟨k1.mono (fun c9 hx _=>by simp at hx;simp[hx]),TG rfl⟩;have a6:wk w1 D x f L (m.set k true) h j:=hI.turn R1 (hI.X6.XI (fun q hq=>k1.block q (hI.X6.lt hq) (by simp;intro e;exact hI.a1 (by rw[<-e];exact hq)))) (by rw[<-ax.o];exact hI.seen.set k);have hu:=l6 m k hs;have cu:(m.set k true).length=f.length:=by rw[Ul];exact b4
  obtain⟨cP,e1,cs,c0,c1⟩:=a6.src.2 k hk;cases e1
  have cS:=cq k;have bo:Xr _:=Et f k;have ai:Xr _:=Oq f k;have bp:Xr _:=Lx f k;have HT:Xr (ss f k=bZ false (iW (aG f k) (ak f k))):=rfl;have HR:Xr (eS f (n+1) k m j=cZ (eS f n) f (ss f k) (m.set k true) j):=rfl;have bv:Xr _:=y8 (aG f k) (ak f k);have cE:=AI (aG f k) (ak f k);obtain⟨R,cj⟩:=bn (eS f (n+1) k m j);rw[cj.o]at HR ⊢;have ag:Xr _:=a6;have be:Xr _:=R1;clear a6 R1 k1 hI;go_enter func83,ntmps83;go_upto_region 2 with fail
  rw[ax.o];go_upto_region 3 with (go_at_call 116;refine(GU _ _ _ (by omega)).mono ?_;rintro e w2 ⟨hW,rfl,oW,kW,fW⟩)
  have I:Xr _:=(Jm (iW (aG f k) (ak f k)) hW.ao hW.cap w2 (by omega) oW.src (fun t ht=>by have:=bv.o t ht;omega));rw[<-HT.o]at I;go_upto_region 4 with (go_at_call 117;refine(Tr I.o ?_);rintro e w3 ⟨hT,rfl,bT⟩)
  obtain⟨T,cl⟩:=bn (ss f k);rw[cl.o]at bo ai bp HR bT ⊢;have cp:0<T.length:=by
   obtain⟨u,e1,-⟩:=ai.o;cases T with
   | nil=>cases e1
   | cons _ _=>simp
  obtain⟨gT,eT,cV,bz⟩:=rC bT.X6 cp;obtain⟨cL,S⟩:=hT;simp only at eT;subst eT;have bz:T.length<=S:=bz;have cR:T.length<=1026:=by have:=bo.o;omega
  have ck:Xr (LN w w3 D x f L (m.set k true) h h j gT S T):=by
   have f1:=bT.far gT rfl;have f2:=kW.size;have f3:=aj ag.o.seen;refine⟨(ag.o.XD kW).XD bT.XQ,be.o.trans (za.of (bq.XD (kW.trans bT.XQ))),bT.X6,fun e=>?_,by omega⟩;have:=ag.o.X6.lt e;omega
  obtain⟨U1,a5⟩:=bn (aV (m.set k true));obtain⟨U,K⟩:=bn (aV m);rw[a5.o]at hu;rw[K.o]at hu hn hb;clear c0 c1 s0 s1 cs ag be ax oW kW fW I bT bv HT cE;go_wp2
  go_loopg [3,11] T.length (fun g o i wr=>∃(q:Nat) (N:Hd) (O:List Tk) (c:List Bool),q<=T.length/\g=T.length-q/\o=slice N.ao O.length N.cap/\i=int i64 q/\(O.length+2000*aV c<=j.length+q+2000*U1/\aV c<=U1/\c.length=f.length)/\Xr (cZ (eS f n) f (T.drop q) c O=R)/\Xr (LN w wr D x f L c h N O gT S T))
  ·exact⟨0,h,j,m.set k true,by omega,rfl,rfl,rfl,⟨by rw[a5.o];omega,by rw[a5.o];omega,cu⟩,by show _=_;rw[Wd];exact HR.o.symm,ck⟩
  obtain⟨q,N,O,c,hq,hg,rfl,rfl,⟨z1,z2,z3⟩,Z,J⟩:=hrel;obtain⟨U2,d⟩:=bn (aV c);rw[d.o]at z1 z2;rcases kn q T.length with ⟨az,c7⟩ | ⟨az,-⟩
  ·obtain⟨c0,c1,c2,c3,c4⟩:=qZ J.o.t rfl q T[q] (Tm az);have HD:Xr _:=TU az;have ba:Xr ((T[q].s.toList == [])=false->q+1<T.length):=fun he=>wi.next ai.o q _ (Tm az) he;rw[HD.o]at Z;obtain⟨bw,M⟩:=bn (dG O);have a0:Xr _:=(A7 O N.ao N.cap wr (by omega) J.o.i.X6.src);rw[M.o]at a0;have cX:gT<wr.heap.size:=J.o.t.lt rfl;generalize T[q]=t at *;obtain⟨H,P,tf,tl,tc⟩:=t;simp only at c0 c1 c2 c3 c4 ba;(go_upto_region 8 with (go_at_call 118;refine Tr a0.o ?_;rintro e w4 ⟨rfl,b5⟩;rw[b5];clear b5));clear a0
   go_cut [47] from 34 to 47 (fun cF wd=>cF=bool ((P==0)&&(H.toList == []))/\wd=wr)
   case first =>
    cases hr:(P==0)
    ·go_wp2_with fail;go_meet
     case rel=>exact⟨by rw[hr];rfl,rfl⟩
    ·cases he:(H.toList == [])
     all_goals
      go_wp2_with fail;go_meet
      case rel=>exact⟨by rw[hr,he];rfl,rfl⟩
   case rest =>
    obtain⟨rfl,cB⟩:=hcut;subst cB;cases hA:((P==0)&&(H.toList == []))
    ·cases hi:(H.toList == [36,91])
     ·have C:Xr (cZ (eS f n) f (T.drop (q+1)) c (O++[⟨H,P,tf,tl,tc⟩])=R):=(by show _=_;rw[<-Z.o];exact(Gb hA hi).symm);go_wp2_with (at_builtin;refine cn _ rfl (.tmp 66) (.tmp 71) rfl N O ⟨H,P,tf,tl,tc⟩ rfl J.o.i.X6 (by omega) rfl ?_;intro h5 X y v;have HM:Xr _:=J.o.XN v y;clear y v);go_roundg (T.length-(q+1))
      ·exact⟨q+1,h5,O++[⟨H,P,tf,tl,tc⟩],c,by omega,rfl,by simp,by go_num,⟨by rw[d.o];simp;omega,by rw[d.o];exact z2,z3⟩,C,HM⟩
      omega
     ·cases bw
      ·have C:Xr (R=(O++[rY ⟨H,P,tf,tl,tc⟩ 4],c)):=(by show _=_;rw[<-Z.o];exact KL hA hi M.o);have A:(O++[rY ⟨H,P,tf,tl,tc⟩ 4]).length+2000*aV c<=j.length+2000*aV m:=(by rw[d.o,K.o];simp;omega);have l:aV c<=aV m:=(by rw[d.o,K.o];omega);go_wp2_with (at_builtin;refine cn _ rfl (.tmp 75) (.tmp 82) rfl N O (rY ⟨H,P,tf,tl,tc⟩ 4) rfl J.o.i.X6 (by omega) rfl ?_;intro h5 X y v;have HM:Xr _:=J.o.XN v y;clear y v);go_ret;exact pN HM.o C.o (by omega) A l (by simp)
      ·have he:(H.toList == [])=false:=by
        have e:H.toList=[36,91]:=(by simpa using hi);rw[e];rfl
       have V:=ba.o he;obtain⟨d0,d1,d2,d3,d4⟩:=qZ J.o.t rfl (q+1) T[q+1] (Tm V);have cb:Xr _:=TU V;rw[cb.o]at Z;have cz:=bp.o T[q+1] (TO V);have aS:Xr ((T[q+1].s.toList == [])=false->q+1+1<T.length):=fun he=>wi.next ai.o (q+1) _ (Tm V) he;have b6:Xr (T[q+1]?=some T[q+1]):=Tm V;generalize T[q+1]=a at *;obtain⟨Y,ar,af,al,ac⟩:=a;simp only at d0 d1 d2 d3 d4 aS cz;obtain⟨r1,av⟩:=bn (dJ f Y ar);have a3:Xr _:=(FH f (some ⟨D,0,none⟩) x Y af ar al ac _ (by omega) J.o.i.src (by omega));rw[av.o]at a3;(go_upto_region 17 with (go_at_call 119;refine Tr a3.o ?_;rintro e X ⟨rfl,k5⟩));obtain⟨W5,an⟩:=bn (X.alloc (.cells #[string ⟨#[]⟩,int i64 r1,string af,int i64 al,int i64 ac] 138));have aT:=f8 an.o;have K5:=k5.trans (show ae [] X W5 by rw[<-an.o];exact kr0.alloc _);have a4:Xr _:=J.o.XD K5;have W:=k5.size;rw[an.o];clear c0 c1 c2 c3 c4 d0 d1 d2 d3 d4 an a3 k5;obtain⟨p0,p1,p2,p3,p4⟩:=oc aT;cases h1:(r1==0)
       ·have C:Xr (R=(O++[rY ⟨Y,ar,af,al,ac⟩ r1],c)):=(by show _=_;rw[<-Z.o,DT hA hi M.o (by show(dJ f Y ar==0)=false;rw[av.o];exact h1)];simp only;rw[av.o]);have A:(O++[rY ⟨Y,ar,af,al,ac⟩ r1]).length+2000*aV c<=j.length+2000*aV m:=(by rw[d.o,K.o];simp;omega);have l:aV c<=aV m:=(by rw[d.o,K.o];omega);go_wp2_with (at_builtin;refine cn _ rfl (.tmp 103) (.tmp 105) rfl N O (rY ⟨Y,ar,af,al,ac⟩ r1) rfl a4.o.i.X6 (by omega) rfl ?_;intro h5 w8 y v;have HM:Xr _:=a4.o.XN v y;clear y v);go_ret;exact pN HM.o C.o (by omega) A l (by simp)
       ·have cx:r1=0:=(by simpa using h1);subst cx;clear h1;have bd:Xr ((dJ f Y ar==0)=true):=cg (by rw[av.o];rfl);obtain⟨cA,b0⟩:=FJ bd.o;have b2:q+2<T.length:=aS.o cA;obtain⟨d0,d1,d2,d3,d4⟩:=qZ a4.o.t rfl (q+2) T[q+2] (Tm b2);have cc:Xr (T.drop (q+1+1)=T[q+2] :: T.drop (q+3)):=TU b2;rw[cc.o]at Z;generalize T[q+2]=b at *;obtain⟨bs,br,bf,bl,bc⟩:=b;simp only at d0 d1 d2 d3 d4;obtain⟨r2,bx⟩:=bn (eB bs br);have a2:Xr _:=CK bs bf br bl bc W5;rw[bx.o]at a2;have p:Xr _:=KJ (rec:=eS f n) (fs:=f) (r:=T.drop (q+3)) (sn:=c) (t:=⟨H,P,tf,tl,tc⟩) (a:=⟨Y,ar,af,al,ac⟩) (b:=⟨bs,br,bf,bl,bc⟩) hA hi M.o bd.o;rw[Z.o]at p;simp only at p;rw[bx.o]at p;(go_upto_region 19 with (go_at_call 120;refine Tr a2.o ?_;rintro e w6 ⟨rfl,k6⟩;have z:=k6.get aT (by simp);have f0:=am z 0;have f1:=am z 1;have f2:=am z 2;have f3:=am z 3;have f4:=am z 4;have o0:=ah z 0;have o1:=ah z 1;have o2:=ah z 2;have o3:=ah z 3;have o4:=ah z 4;have c8:=aj z));obtain⟨W6,ap⟩:=bn (((((w6.setCell ⟨X.heap.size,0,none⟩ (string ⟨#[]⟩)).setCell ⟨X.heap.size,1,none⟩ (int i64 r2)).setCell ⟨X.heap.size,2,none⟩ (string bf)).setCell ⟨X.heap.size,3,none⟩ (int i64 bl)).setCell ⟨X.heap.size,4,none⟩ (int i64 bc));have K6:=(show Xr (ae [] _ W6) by rw[<-ap.o];exact(((((K5.trans k6).setCell (TA (by exact W)) _).setCell (TA (by exact W)) _).setCell (TA (by exact W)) _).setCell (TA (by exact W)) _).setCell (TA (by exact W)) _);have E:Xr _:=J.o.XD K6.o;have BX:W6.heap[X.heap.size]?=some (.cells #[string ⟨#[]⟩,int i64 r2,string bf,int i64 bl,int i64 bc] 138):=by
         rw[<-ap.o,ab (ab (ab (ab (ab z 0 _) 1 _) 2 _) 3 _) 4 _];rfl
        rw[ap.o];clear p0 p1 p2 p3 p4 d0 d1 d2 d3 d4 f0 f1 f2 f3 f4 o0 o1 o2 o3 o4 a2 ap aT z K6 k6 K5;obtain⟨p0,p1,p2,p3,p4⟩:=oc BX;cases h2:(r2==0)
        ·have C:Xr (R=(O++[rY ⟨bs,br,bf,bl,bc⟩ r2],c)):=(by show _=_;rw[p.o,Tq h2]);have A:(O++[rY ⟨bs,br,bf,bl,bc⟩ r2]).length+2000*aV c<=j.length+2000*aV m:=(by rw[d.o,K.o];simp;omega);have l:aV c<=aV m:=(by rw[d.o,K.o];omega);go_wp2_with (at_builtin;refine cn _ rfl (.tmp 103) (.tmp 105) rfl N O (rY ⟨bs,br,bf,bl,bc⟩ r2) rfl E.o.i.X6 (by omega) rfl ?_;intro h5 w8 y v;have HM:Xr _:=E.o.XN v y;clear y v);go_ret;exact pN HM.o C.o (by omega) A l (by simp)
        ·have cy:r2=0:=(by simpa using h2);subst cy;clear h2;rw[To (by simp)]at p;obtain⟨jn,b1⟩:∃jn:Nat,bS f Y=(jn:Int):=⟨(bS f Y).toNat,by omega⟩
         have ct:jn<f.length:=(by have:=O9 b0;omega);have c5:(jn:Int)<f.length:=(by omega);have cH:(0:Int)<=(jn:Int):=(by omega);have ad:Xr _:=(nu f (some ⟨D,0,none⟩) x Y W6 (by omega) E.o.i.src);rw[b1]at ad p;rw[Uq]at p;obtain⟨e0,-⟩:=qZ E.o.t rfl (q+1) _ b6.o;simp only at e0;obtain⟨bj,a7⟩:∃bj,c[jn]?=some bj:=⟨_,Tm (by omega)⟩
         have sj:=E.o.i.seen.cell jn bj a7;have cr:c.getD jn true=bj:=(by rw[Tn,a7];rfl);rw[cr]at p;clear b1 b0;cases bj
         ·rw[To (by simp)]at p;have Q:Xr _:=(cf.o jn c O N L F W6 (by rw[d.o];omega) z3 b3 ct a7 (by rw[d.o];omega) E.o.i);obtain⟨R7,ch⟩:=bn (eS f n jn c O);rw[ch.o]at Q p;obtain⟨O7,G⟩:=R7;(go_upto_region 24 with (first | (go_at_call 36;refine Tr ad.o ?_;rintro e w9 ⟨rfl,B⟩;rw[B];clear B) | (go_at_call 83;refine Tr Q.o ?_;rintro e w7 ⟨h7,rfl,o7,s7,r7,l7,n7,u7⟩;have bg:Xr _:=E.o.turn r7 o7 s7)));clear p0 p1 p2 p3 p4 e0 sj Q ad BX;have l7:G.length=c.length:=l7;have n7:O7.length+2000*aV G<=O.length+2000*aV c:=n7;have u7:aV G<=aV c:=u7;obtain⟨bk,ca⟩:=bn (fj O7);have co:O7.length<=100000:=by rw[d.o]at n7;omega
          have I:Xr _:=vO O7 h7.ao h7.cap w7 co o7.src;rw[ca.o]at I p;rw[d.o]at n7 u7;clear o7 s7 r7;cases bk
          ·have C:Xr (cZ (eS f n) f (T.drop (q+3)) G O7=R):=(by show _=_;rw[p.o,To (by simp)]);go_wp2_with (go_at_call 84;refine Tr I.o ?_;rintro e w9 ⟨rfl,B⟩;rw[B];clear B);go_roundg (T.length-(q+3))
           ·exact⟨q+3,h7,O7,G,by omega,rfl,rfl,by go_num,⟨by omega,by omega,by omega⟩,C,bg⟩
           omega
          ·have C:Xr (R=(O7,G)):=(by show _=_;rw[p.o,Tq rfl]);have A:O7.length+2000*aV G<=j.length+2000*aV m:=(by rw[K.o];omega);have l:aV G<=aV m:=(by rw[K.o];omega);go_wp2_with (go_at_call 84;refine Tr I.o ?_;rintro e w9 ⟨rfl,B⟩;rw[B];clear B);go_ret;exact pN bg.o C.o (by omega) A l rfl
         ·rw[Tq rfl]at p;go_wp2_with (go_at_call 36;refine Tr ad.o ?_;rintro e w9 ⟨rfl,B⟩;rw[B];clear B);go_roundg (T.length-(q+3))
          ·exact⟨q+3,N,O,c,by omega,rfl,rfl,by go_num,⟨by rw[d.o];omega,by rw[d.o];exact z2,z3⟩,p.o.symm,E⟩
          omega
    ·cases bw
     ·have C:Xr (R=(O++[rY ⟨H,P,tf,tl,tc⟩ 7],c)):=by show _=_;rw[<-Z.o];exact by rw[Ai hA,To (by rw[M.o];simp)]
      have A:(O++[rY ⟨H,P,tf,tl,tc⟩ 7]).length+2000*aV c<=j.length+2000*aV m:=(by rw[d.o,K.o];simp;omega);have l:aV c<=aV m:=(by rw[d.o,K.o];omega);go_wp2_with (at_builtin;refine cn _ rfl (.tmp 50) (.tmp 57) rfl N O (rY ⟨H,P,tf,tl,tc⟩ 7) rfl J.o.i.X6 (by omega) rfl ?_;intro h5 X y v;have HM:Xr _:=J.o.XN v y;clear y v);go_ret;exact pN HM.o C.o (by omega) A l (by simp)
     ·have C:Xr (R=(O,c)):=(by show _=_;rw[<-Z.o,Ai hA,Tq M.o]);have A:O.length+2000*aV c<=j.length+2000*aV m:=(by rw[d.o,K.o];omega);have l:aV c<=aV m:=(by rw[d.o,K.o];omega);go_wp2;go_ret;exact pN J.o C.o (by omega) A l rfl
  ·have e:q=T.length:=(by omega);subst e;have C:Xr (R=(O,c)):=cg (by rw[<-Z.o,WC,cZ]);have A:O.length+2000*aV c<=j.length+2000*aV m:=by rw[d.o,K.o];omega
   have l:aV c<=aV m:=(by rw[d.o,K.o];omega);go_wp2;go_ret;exact pN J.o C.o (by omega) A l rfl
theorem Fn:(prog.info? 4).map (fun i=>(i.zero,i.size,i.bytes))=some (some (bool false),1,1):=by kernel_rfl
theorem sR:madeCells (bool false).cells (x*1)=((List.replicate x false).map bool).toArray:=by
 rw[Xq];apply Array.ext
 ·rw[U6];simp
 ·intro i a b;have e:(bool false).cells=#[bool false]:=rfl;simp[madeCells,e,Nat.mod_one]
def qo(fs:Fs)(k:Nat):List Tk:=(eS fs fs.length k (List.replicate fs.length false) []).1
def gQ:Tk:=⟨⟨#[]⟩,0,⟨#[]⟩,0,0⟩
def cM(fs:Fs)(k:Nat):List Tk×Tk:=if fj (qo fs k)=true then((qo fs k).dropLast,(qo fs k).getLast?.getD gQ) else(qo fs k,gQ)
theorem nX:aV (List.replicate x false)=x:=by
 unfold aV;rw[List.countP_replicate];simp
theorem lP.drop(h:lP i u y v):lP i u y v.dropLast:=by
 refine⟨by rw[Vj];have:=h.1;omega,fun k t a=>h.2 k t ?_⟩;rw[List.getElem?_dropLast]at a;split at a
 ·exact a
 ·cases a
theorem lP.keptS{S:Xv}(h:lP i u y v)(k:ae S i s)(m:∀g,u=some ⟨g,0,none⟩->g∉S):lP s u y v:=by
 refine⟨h.1,fun j t n=>?_⟩;obtain⟨g,e,a,b,c,d,f,l⟩:=h.2 j t n;have q:∀o,s.cell? ⟨g,o,none⟩=i.cell? ⟨g,o,none⟩:=fun o=>TN (k.block g a (m g e));exact⟨g,e,Tv a k.size,by rw[q];exact b,by rw[q];exact c,by rw[q];exact d,by rw[q];exact f,by rw[q];exact l⟩
theorem tX{j k l m:Value}(h:i.heap[y]?=some (.cells #[j,k,l,m] 87))(a b c d:Value) :
  (i.setCell ⟨y,0,none⟩ a).cell? ⟨y,0,none⟩=some a/\((i.setCell ⟨y,0,none⟩ a).setCell ⟨y,1,none⟩ b).cell? ⟨y,1,none⟩=some b/\(((i.setCell ⟨y,0,none⟩ a).setCell ⟨y,1,none⟩ b).setCell ⟨y,2,none⟩ c).cell? ⟨y,2,none⟩=some c/\((((i.setCell ⟨y,0,none⟩ a).setCell ⟨y,1,none⟩ b).setCell ⟨y,2,none⟩ c).setCell ⟨y,3,none⟩ d).cell? ⟨y,3,none⟩=some d:=by
 have e:=ab h 0 a;have f:=ab e 1 b;have g:=ab f 2 c;have n:=ab g 3 d;exact⟨by rw[ah e];rfl,by rw[ah f];rfl,by rw[ah g];rfl,by rw[ah n];rfl⟩
theorem JL(ap:f.length<=4)(an:∀D,(ak f D).size<=1024)(hk:D<f.length)(hO:ob S (some ⟨n,0,none⟩) l f)(hg:n<S.heap.size) :
  Calls prog 55 #[slice (some ⟨n,0,none⟩) f.length l,int i64 D] S fun e w'=>∃ao c,e=returned (tuple #[slice ao (cM f D).1.length c,agg #[int i64 (cM f D).2.X3,string (cM f D).2.XY,int i64 (cM f D).2.XZ,int i64 (cM f D).2.X0]])/\lP w' ao c (cM f D).1/\ae [] S w'/\∀g,ao=some ⟨g,0,none⟩->S.heap.size<=g/\g<w'.heap.size:=by
 obtain⟨i1,ar,ax,az,aS⟩:=TY Fn;have m2:=fun S=>dF (P:=prog) S 134 4 i1 _ underlying134 ar ax f.length 1 az (by rw[aS];omega) (by omega);obtain⟨mc,J⟩:=bn (madeCells (bool false).cells (f.length*1));have af:Xr (mc=((List.replicate f.length false).map bool).toArray):=cg (by rw[<-J.o,sR]);rw[J.o]at m2;obtain⟨W,I⟩:=bn ((S.alloc (.cells #[int i64 0,string ⟨#[]⟩,int i64 0,int i64 0] 87)).alloc (.cells mc 4));have R:ae [] S W:=by rw[<-I.o];exact(kr0.alloc _).alloc _
 have SW:gU W (S.heap.size+1) (List.replicate f.length false):=by
  rw[<-I.o,af.o];have:=Ts (S.alloc (.cells #[int i64 0,string ⟨#[]⟩,int i64 0,int i64 0] 87)) (.cells ((List.replicate f.length false).map bool).toArray 4);simpa [gU] using this
 have Q:W.heap[S.heap.size]?=some (.cells #[int i64 0,string ⟨#[]⟩,int i64 0,int i64 0] 87):=by
  rw[<-I.o];exact(kr0.alloc _).get (Ts _ _) (by simp)
 have hI:wk W n l f (S.heap.size+1) (List.replicate f.length false) ⟨none,0⟩ []:=⟨Tw _ _ _ _,SW,hO.XQ R (by simp),(by intro e;cases e),(by intro e;cases e),by omega,Tv hg R.size⟩;have B:Xr _:=(KM f n l ap an f.length D (List.replicate f.length false) [] ⟨none,0⟩ (S.heap.size+1) f.length W (by rw[nX];omega) (by simp) (by omega) hk (by rw[UO];simp[hk]) (by rw[nX];simp;omega) hI);have b:Xr _:=R;clear hI SW R hO;go_enter func55,ntmps55;go_upto_region 2 with fail
 rw[I.o];obtain⟨R7,H⟩:=bn (eS f f.length D (List.replicate f.length false) []);rw[H.o]at B;have u:Xr (qo f D=R7.1):=cg (by unfold qo;rw[H.o]);obtain⟨L,aT⟩:=R7;have u:Xr (qo f D=L):=u.o;go_upto_region 3 with (go_at_call 83;refine Tr B.o ?_;rintro e y ⟨d,rfl,O,s7,U,l7,n7,u7⟩)
 have n7:L.length+2000*aV aT<=0+2000*aV (List.replicate f.length false):=n7;rw[nX]at n7;have O:aB y d (jh L):=O;have hL:L.length<=100000:=by omega
 have C:ae [S.heap.size+1] W y:=U.XQ;have x:=C.get Q (by simp);have z:Xr (∀g,d.ao=some ⟨g,0,none⟩->g∉[S.heap.size]):=fun g r T=>by
  have F:d.XR=some g:=by unfold Hd.XR;rw[r];rfl
  have e3:=aj Q;simp at T;rcases U.XR with e | ⟨q,e,av⟩
  ·rw[F]at e;cases e
  ·rw[F]at e;cases e;omega
 have m:Xr (∀g,d.ao=some ⟨g,0,none⟩->S.heap.size<=g/\g<y.heap.size):=fun g r=>by
  have F:d.XR=some g:=by unfold Hd.XR;rw[r];rfl
  have e3:=aj Q;have e4:=O.lt F;rcases U.XR with e | ⟨q,e,av⟩
  ·rw[F]at e;cases e
  ·rw[F]at e;cases e;omega
 have A:Xr (ae [] S y):=⟨C.os.trans b.o.os,C.tape.trans b.o.tape,C.output.trans b.o.output,TE b.o.size C.size,fun q T _=>by rw[C.block q (Tv T b.o.size) (by simp;omega),b.o.block q T (by simp)]⟩;obtain⟨bk,k⟩:=bn (fj L);have i:Xr _:=vO L d.ao d.cap y hL O.src;rw[k.o]at i;have f0:=am x 0;have f1:=am x 1;have f2:=am x 2;have f3:=am x 3;obtain⟨g0,g1,g2,g3⟩:=CJ x;have j:Xr _:=O.src;clear B Q I m2 U s7 l7 u7 b C;cases bk
 ·have G:Xr (cM f D=(L,gQ)):=by show _=_;unfold cM;rw[u.o,k.o,To (by simp)]
  go_wp2_with (go_at_call 84;refine Tr i.o ?_;rintro e w9 ⟨rfl,s⟩;rw[s];clear s);obtain⟨x0,x1,x2,x3⟩:=tX x (int i64 0) (string ⟨#[]⟩) (int i64 0) (int i64 0);have K:ae [S.heap.size] y ((((y.setCell ⟨S.heap.size,0,none⟩ (int i64 0)).setCell ⟨S.heap.size,1,none⟩ (string ⟨#[]⟩)).setCell ⟨S.heap.size,2,none⟩ (int i64 0)).setCell ⟨S.heap.size,3,none⟩ (int i64 0)):=((((ae.refl _ _).sl1 _).sl1 _).sl1 _).sl1 _;exact Ty (v:=tuple #[slice d.ao L.length d.cap,agg #[int i64 0,string ⟨#[]⟩,int i64 0,int i64 0]]) (by simp[results,results55,go_sem,x0,x1,x2,x3]) rfl ⟨d.ao,d.cap,by rw[G.o];rfl,by rw[G.o];exact lP.keptS j.o K z.o,(((A.o.sr1 (by simp) _).sr1 (by simp) _).sr1 (by simp) _).sr1 (by simp) _,fun g r=>⟨(m.o g r).1,Tv (m.o g r).2 K.size⟩⟩
 ·have hn:0<L.length:=by
   cases al:L with
   | nil=>rw[al]at k;cases k.o
   | cons _ _=>simp
  obtain⟨a,p⟩:=bn (L.length);have M:a-1<L.length:=by rw[<-p.o];omega
  rw[p.o]at hn hL i ⊢;obtain⟨gs,r,a1,c0,c1,c2,c3,c4⟩:=j.o.2 (a-1) L[a-1] (Tm M);have G:Xr (cM f D=(L.dropLast,L[a-1])):=by
   show _=_;unfold cM;rw[u.o,k.o,Tq rfl,Vt,p.o,Tm M];rfl
  have ac:Xr (L.dropLast.length=a-1):=cg (by rw[Vj,p.o]);have a0:a<=d.cap:=by have:=j.o.1;rw[p.o]at this;exact this
  generalize L[a-1]=t at *;obtain⟨ts,Z,X,Y,V⟩:=t;simp only at c0 c1 c2 c3 c4;have a3:IntKind.i64.wrap ((a:Int)-1)=(a:Int)-1:=by rw[UW];omega
  have a2:((a:Int)-1).toNat=a-1:=by omega
  have b2:(a:Int)-1<(a:Int):=by omega
  have b3:(1:Int)<=(a:Int):=by omega
  have b4:(a:Int)-1<=(d.cap:Int):=by omega
  rw[r]at i j z m ⊢;obtain⟨W8,w⟩:=bn (y.alloc (.cells #[string ts,int i64 Z,string X,int i64 Y,int i64 V] 138));go_upto_region 7 with (go_at_call 84;refine Tr i.o ?_;rintro e w9 ⟨rfl,s⟩;rw[s];clear s)
  rw[w.o];have N:=fH w.o;have BX:=f8 w.o;have E:=N.get x (by simp);have ag:Xr _:=lP.drop (lP.XD j.o N);have ad:Xr _:=A.o.trans N;have ai:Xr _:=N.size;clear c0 c1 c2 c3 c4 f0 f1 f2 f3 g0 g1 g2 g3 i w x N A j;obtain⟨-,p1,p2,p3,p4⟩:=oc BX;have f0:=am E 0;have f1:=am E 1;have f2:=am E 2;have f3:=am E 3;obtain⟨g0,g1,g2,g3⟩:=CJ E;go_region;go_wp2;obtain⟨x0,x1,x2,x3⟩:=tX E (int i64 Z) (string X) (int i64 Y) (int i64 V);have K:ae [S.heap.size] W8 ((((W8.setCell ⟨S.heap.size,0,none⟩ (int i64 Z)).setCell ⟨S.heap.size,1,none⟩ (string X)).setCell ⟨S.heap.size,2,none⟩ (int i64 Y)).setCell ⟨S.heap.size,3,none⟩ (int i64 V)).drew:=(((((ae.refl _ _).sl1 _).sl1 _).sl1 _).sl1 _).drew;exact Ty (v:=tuple #[slice (some ⟨gs,0,none⟩) (a-1) d.cap,agg #[int i64 Z,string X,int i64 Y,int i64 V]]) (by simp[results,results55,go_sem,x0,x1,x2,x3]) rfl ⟨some ⟨gs,0,none⟩,d.cap,by rw[G.o,ac.o],by rw[G.o];exact lP.keptS ag.o K z.o,((((ad.o.sr1 (by simp) _).sr1 (by simp) _).sr1 (by simp) _).sr1 (by simp) _).drew,fun g r=>⟨(m.o g r).1,Tv (m.o g r).2 (TE ai.o K.size)⟩⟩
structure Sm where
 a:Nat
 z:Nat
 h:Nat
 k:Xs
def Cx(w:World)(ao:Xu)(cap:Nat)(S:List Sm):Prop:=S.length<=cap/\∀k s,S[k]?=some s->∃g,ao=some ⟨g,0,none⟩/\g<w.heap.size /\
  w.cell? ⟨g,k*4,none⟩=some (int i64 s.a)/\w.cell? ⟨g,k*4+1,none⟩=some (int i64 s.z)/\w.cell? ⟨g,k*4+2,none⟩=some (int i64 s.h)/\w.cell? ⟨g,k*4+3,none⟩=some (string s.k)
theorem Cx.XD{S:List Sm}(h:Cx i u y S)(k:ae [] i s):Cx s u y S:=by
 refine⟨h.1,fun j t l=>?_⟩;obtain⟨g,e,a,b,c,d,f⟩:=h.2 j t l;have q:∀o,s.cell? ⟨g,o,none⟩=i.cell? ⟨g,o,none⟩:=fun o=>TN (k.block g a (by simp));exact⟨g,e,Tv a k.size,by rw[q];exact b,by rw[q];exact c,by rw[q];exact d,by rw[q];exact f⟩
structure gx(w:World)(b:Nat)(T:List Tk)(aoT:Xu)(cT:Nat)(S:List Sm)(aoS:Xu)(cS:Nat):Prop where
 d:w.heap[b]?=some (.cells #[slice aoT T.length cT,slice aoS S.length cS] 141)
 t:lP w aoT cT T
 s:Cx w aoS cS S
theorem gx.XD{S:List Sm}(h:gx i y v u z0 S zt z4)(k:ae [] i s):gx s y v u z0 S zt z4 :=
 ⟨k.get h.d (by simp),h.t.XD k,h.s.XD k⟩
theorem gx.cells{S:List Sm}(h:gx i y v u z0 S zt z4):i.cell? ⟨y,0,none⟩=some (slice u v.length z0)/\i.cell? ⟨y,1,none⟩=some (slice zt S.length z4)/\y<i.heap.size :=
 ⟨by rw[ah h.d];rfl,by rw[ah h.d];rfl,aj h.d⟩
def aA(k:Xs):Bool:=(k.toList == [36,97])||(k.toList == [36,112])
def aH(k:Xs):Bool:=(k.toList == [36,102])||(k.toList == [36,101])
set_option maxRecDepth 512
theorem gW :
  Calls prog 123 #[string d] S fun e a=>e=returned (bool (aA d))/\a=S:=by
 go_enter func123,ntmps123;go_wp2
 all_goals go_ret
 all_goals (refine⟨?_,rfl⟩;simp[aA, *])
theorem mn :
  Calls prog 124 #[string d] S fun e a=>e=returned (bool (aH d))/\a=S:=by
 go_enter func124,ntmps124;go_wp2
 all_goals go_ret
 all_goals (refine⟨?_,rfl⟩;simp[aH, *])
def ic(w:World)(ao:Xu)(L:Xt):Prop:=∀k x,L[k]?=some x->∃g,ao=some ⟨g,0,none⟩/\g<w.heap.size/\w.cell? ⟨g,k,none⟩=some (string x)
theorem aB.srcX(o:aB i z5 (aE y0)):ic i z5.ao y0:=by
 intro k x c;rcases o.XO with ⟨_,b,_⟩ | ⟨g,d,a,e,f,-⟩
 ·have b:y0.length=0:=b;have:=(Tz.1 c).1;omega
 ·exact⟨g,a,aj e,o.cell a k (string x) (by simp[aE,dK,c])⟩
theorem Pi(a:x<k.length)(h:(k[x].toList==d.toList)=true):aK k d=true:=by
 unfold aK;exact Us.2 ⟨k[x],TO a,h⟩
theorem Pk(h:∀a (b:a<k.length),(k[a].toList==d.toList)=false):aK k d=false:=by
 unfold aK;rw[V8];intro y c;obtain⟨a,b,e⟩:=Ux c;have:=h a b;rw[e]at this;rw[this];simp
theorem kN(m:ic S I k)(x:k.length<=1000000000) :
  Calls prog 94 #[slice I k.length D,string d] S fun e u=>e=returned (bool (aK k d))/\u=S:=by
 have p:Xr _:=m;clear m;go_enter func94,ntmps94;go_wp2
 go_loopg [5] k.length (fun g i wr=>∃a:Nat,a<=k.length/\g=k.length-a/\i=int i64 a/\Xr (∀j (b:j<k.length),j<a->(k[j].toList==d.toList)=false)/\wr=S)
 ·exact⟨0,by omega,by omega,rfl,(fun j _ h=>by omega),rfl⟩
 obtain⟨a,A,z,rfl,l,rfl⟩:=hrel;by_cases f:a<k.length
 ·obtain⟨v,rfl,s,B⟩:=p.o a k[a] (Tm f);have t:(a:Int)<k.length:=by omega
  have r:Xr ((k[a].toList==d.toList)=true->aK k d=true):=Pi k d a f;have q:Xr ((k[a].toList==d.toList)=false->∀j (b:j<k.length),j<a+1->(k[j].toList==d.toList)=false):=fun h j b w=>by
   by_cases e:j=a
   ·subst e;exact h
   ·exact l.o j b (by omega)
  generalize k[a]=y at *;cases n:(y.toList==d.toList)
  ·have c:Xr (∀j (b:j<k.length),j<a+1->(k[j].toList==d.toList)=false):=q.o n;go_wp2;go_roundg (k.length-(a+1))
   ·exact⟨a+1,by omega,rfl,by go_num,c,rfl⟩
   omega
  ·have c:Xr (aK k d=true):=r.o n;go_wp2;go_ret;exact⟨aF c.o.symm,rfl⟩
 ·have c:Xr (aK k d=false):=Pk k d (fun j b=>l.o j b (by omega));go_wp2;go_ret;exact⟨aF c.o.symm,rfl⟩
def tS(T:List Tk)(i:Nat):Xs:=(T.getD i gQ).s
theorem jc(h:x<H.length):H[x]?=some (H.getD x gQ):=by
 rw[Tn,Tm h];rfl
def ee(T:List Tk)(b:Nat):Xs×Nat:=if(ii (tS T b) ⟨#[36]⟩||decide (T.length<=b+1))=true then(tS T b,b+1) else(tS T (b+1),b+2)
set_option maxRecDepth 100000
theorem Iw(S:List Sm)(j:Xu)(D:Nat)(w:World)(p:gx w n H I x S j D)(K:l<H.length)(G:H.length<=100000)(L:∀i,(tS H i).size<=1073741824) :
  Calls prog 86 #[pointer (some ⟨n,0,none⟩),int i64 l] w fun e M=>e=returned (tuple #[string (ee H l).1,int i64 ((ee H l).2:Nat)])/\M=w:=by
 obtain⟨C,-,O⟩:=p.cells;obtain⟨z,rfl,J,v,-⟩:=p.t.2 l _ (jc H l K);replace v:w.cell? ⟨z,l*5,none⟩=some (string (tS H l)):=v;have r:(l:Int)<H.length:=by omega
 have s:=L l;have d:((l+1:Nat):Int)=(l:Int)+1:=by omega
 have q:((l+2:Nat):Int)=(l:Int)+2:=by omega
 obtain⟨b,g⟩:=bn (tS H l);rw[g.o]at v s;obtain⟨u,f⟩:=bn (H.length);rw[f.o]at C r G;cases k:ii b ⟨#[36]⟩
 ·by_cases N:u<=l+1
  ·have c:Xr (ee H l=(b,l+1)):=(by show _=_;unfold ee;rw[g.o,k,f.o,Tq (by simp;omega)]);have m:(u:Int)<=(l:Int)+1:=(by omega);go_enter func86,ntmps86;go_wp2_with (go_at_call 121;refine(gn b _ _ (by omega) (by show 1<=_;omega)).mono ?_;rintro e B ⟨rfl,a⟩;rw[a];clear a);go_ret2;exact⟨by rw[c.o];show _=Ending.returned (tuple #[string b,int i64 ((l+1:Nat):Int)]);rw[d];rfl,rfl⟩
  ·have c:Xr (ee H l=(tS H (l+1),l+2)):=(by show _=_;unfold ee;rw[g.o,k,f.o,To (by simp;omega)]);have m:¬(u:Int)<=(l:Int)+1:=(by omega);obtain⟨F,E,-,A,-⟩:=p.t.2 (l+1) _ (jc H (l+1) (by rw[f.o];omega));cases E
   replace A:w.cell? ⟨z,(l+1)*5,none⟩=some (string (tS H (l+1))):=A;generalize tS H (l+1)=y at *;go_enter func86,ntmps86;go_wp2_with (go_at_call 121;refine(gn b _ _ (by omega) (by show 1<=_;omega)).mono ?_;rintro e B ⟨rfl,a⟩;rw[a];clear a);go_ret2;exact⟨by rw[c.o];show _=Ending.returned (tuple #[string y,int i64 ((l+2:Nat):Int)]);rw[q];rfl,rfl⟩
 ·have c:Xr (ee H l=(b,l+1)):=by show _=_;unfold ee;rw[g.o,k,Tq (by simp)]
  go_enter func86,ntmps86;go_wp2_with (go_at_call 121;refine(gn b _ _ (by omega) (by show 1<=_;omega)).mono ?_;rintro e B ⟨rfl,a⟩;rw[a];clear a);go_ret2;exact⟨by rw[c.o];show _=Ending.returned (tuple #[string b,int i64 ((l+1:Nat):Int)]);rw[d];rfl,rfl⟩
def rN:Int->List Sm->Bool
 | _,[]=>true
 | o,s :: r=>if aR o s.k<0 then false else rN (aR o s.k) r
def aO(S:List Sm)(j n:Nat):Bool:=rN 0 ((S.drop j).take (n-j))
def bt(S:List Sm)(n:Nat):Int:=(S.take n).foldl (fun o s=>aR o s.k) 0
theorem vR(S:List Sm)(k:Nat)(h:k<S.length):bt S (k+1)=aR (bt S k) S[k].k:=by
 unfold bt;rw[Uo h,Vo];rfl
theorem Ey(c:(N.toList == [36,123])=true)(a:(N.toList == [36,125])=true):False:=by
 have b:N.toList=[36,123]:=by simpa using c
 rw[b]at a;exact absurd a (by decide)
theorem Fb(S:List Sm)(j:Xu)(y:Nat)(w:World)(p:gx w n H I x S j y)(N:l<=S.length)(G:S.length<=100000) :
  Calls prog 169 #[pointer (some ⟨n,0,none⟩),int i64 l] w fun e D=>e=returned (int i64 (bt S l))/\D=w:=by
 obtain⟨-,E,J⟩:=p.cells;have v:Xr _:=p.s.2;clear p;go_enter func169,ntmps169;go_wp2
 go_loopg [5,6] l (fun g o i wr=>∃(k:Nat) (m:Int),k<=l/\g=l-k/\o=int i64 m/\i=int i64 k/\(-(k:Int)<=m/\m<=(k:Int))/\Xr (m=bt S k)/\wr=w)
 ·exact⟨0,0,by omega,rfl,rfl,rfl,by omega,rfl,rfl⟩
 obtain⟨k,m,L,K,rfl,rfl,M,r,rfl⟩:=hrel;by_cases B:k<l
 ·have d:k<S.length:=by omega
  obtain⟨F,rfl,z,-,-,-,C⟩:=v.o k S[k] (Tm d);have b:Xr _:=vR S k d;have A:(k:Int)<(l:Int):=by omega
  have u:(k:Int)<S.length:=by omega
  rw[<-r.o]at b;generalize S[k]=t at *;obtain⟨O,Q,P,q⟩:=t;simp only at C b;cases f:(q.toList == [36,123])
  ·cases c:(q.toList == [36,125])
   ·have a:Xr (m=bt S (k+1)):=(by show _=_;rw[b.o,aR,f,c];simp);go_wp2;go_roundg (l-(k+1))
    ·exact⟨k+1,m,by omega,rfl,rfl,by go_num,by omega,a,rfl⟩
    omega
   ·have a:Xr (m-1=bt S (k+1)):=(by show _=_;rw[b.o,aR,f,c];simp);go_wp2;go_roundg (l-(k+1))
    ·exact⟨k+1,m-1,by omega,rfl,by go_num,by go_num,by omega,a,rfl⟩
    omega
  ·cases c:(q.toList == [36,125])
   ·have a:Xr (m+1=bt S (k+1)):=(by show _=_;rw[b.o,aR,f,c];simp);go_wp2;go_roundg (l-(k+1))
    ·exact⟨k+1,m+1,by omega,rfl,by go_num,by go_num,by omega,a,rfl⟩
    omega
   ·exact(Ey f c).elim
 ·have e:k=l:=by omega
  subst e;go_wp2;go_ret;exact⟨au r.o,rfl⟩
theorem Ma(S:List Sm)(k n:Nat)(h:k<n)(a:n<=S.length):(S.drop k).take (n-k)=S[k]'(by omega) :: (S.drop (k+1)).take (n-(k+1)):=by
 rw[TU (by omega),show n-k=(n-(k+1))+1 by omega,WP]
theorem lQ(S:List Sm)(p:Xu)(C:Nat)(w:World)(q:gx w L H I x S p C)(R:n<=l)(G:l<=S.length)(O:S.length<=100000) :
  Calls prog 93 #[pointer (some ⟨L,0,none⟩),int i64 n,int i64 l] w fun e K=>e=returned (bool (aO S n l))/\K=w:=by
 obtain⟨-,M,P⟩:=q.cells;have B:Xr _:=q.s.2;clear q;go_enter func93,ntmps93;go_wp2
 go_loopg [7,8] (l-n) (fun g o i wr=>∃(k:Nat) (m:Int),(n<=k/\k<=l)/\g=l-k/\o=int i64 m/\i=int i64 k/\(0<=m/\m<=(k:Int))/\Xr (aO S n l=rN m ((S.drop k).take (l-k)))/\wr=w)
 ·exact⟨n,0,⟨by omega,by omega⟩,rfl,rfl,rfl,by omega,rfl,rfl⟩
 obtain⟨k,m,⟨E,T⟩,Q,rfl,rfl,U,b,rfl⟩:=hrel;by_cases u:k<l
 ·have r:k<S.length:=by omega
  obtain⟨N,rfl,D,-,-,-,J⟩:=B.o k S[k] (Tm r);have A:Xr _:=Ma S k l u G;rw[A.o,rN]at b;have F:(k:Int)<(l:Int):=by omega
  have y:(k:Int)<S.length:=by omega
  generalize S[k]=t at *;obtain⟨V,X,W,c⟩:=t;simp only at J b;cases j:(c.toList == [36,123])
  ·cases d:(c.toList == [36,125])
   ·have a:Xr (aO S n l=rN m ((S.drop (k+1)).take (l-(k+1)))):=by
     have f:aR m c=m:=(by unfold aR;rw[j,d];simp);have:=b.o;rw[f,To (by omega)]at this;exact this
    have v:¬m<0:=(by omega);go_wp2;go_roundg (l-(k+1))
    ·exact⟨k+1,m,⟨by omega,by omega⟩,rfl,rfl,by go_num,by omega,a,rfl⟩
    omega
   ·have f:aR m c=m-1:=(by unfold aR;rw[j,d];simp);rw[f]at b;by_cases z:m-1<0
    ·have a:Xr (aO S n l=false):=by
      have:=b.o;rw[Tq z]at this;exact this
     go_wp2;go_ret;exact⟨aF a.o.symm,rfl⟩
    ·have a:Xr (aO S n l=rN (m-1) ((S.drop (k+1)).take (l-(k+1)))):=by
      have:=b.o;rw[To z]at this;exact this
     go_wp2;go_roundg (l-(k+1))
     ·exact⟨k+1,m-1,⟨by omega,by omega⟩,rfl,by go_num,by go_num,by omega,a,rfl⟩
     omega
  ·cases d:(c.toList == [36,125])
   ·have a:Xr (aO S n l=rN (m+1) ((S.drop (k+1)).take (l-(k+1)))):=by
     have f:aR m c=m+1:=(by unfold aR;rw[j,d];simp);have:=b.o;rw[f,To (by omega)]at this;exact this
    have v:¬m+1<0:=(by omega);go_wp2;go_roundg (l-(k+1))
    ·exact⟨k+1,m+1,⟨by omega,by omega⟩,rfl,by go_num,by go_num,by omega,a,rfl⟩
    omega
   ·exact(Ey j d).elim
 ·have e:k=l:=by omega
  subst e;have a:Xr (aO S n k=true):=cg (by rw[b.o,Uy,VQ,rN]);go_wp2;go_ret;exact⟨aF a.o.symm,rfl⟩
def nV(s:Xs):Bool:=(s.toList == [36,61])||(s.toList == [36,46])
def lI:List Tk->Xt
 | []=>[]
 | t :: r=>if nV t.s=true then [] else t.s :: lI r
def bB(T:List Tk)(h:Nat):Xt:=lI (T.drop h)
def dU(T:List Tk)(h:Nat):Prop:=∃e,h<=e/\e<T.length/\nV (tS T e)=true
theorem Id(h:x<H.length):H.drop x=H.getD x gQ :: H.drop (x+1):=by
 rw[TU h,Tn,Tm h];rfl
theorem Ju(L:List Tk):(lI L).length<=L.length:=by
 induction L with
 | nil=>exact Tp _
 | cons t r a=>rw[lI];split <;> simp <;> omega
theorem lS:(bB H x).length<=H.length:=by
 have:=Ju (H.drop x);rw[Uw]at this;unfold bB;omega
structure zC(w wr:World)(h:Hd)(O:Xt):Prop where
 X6:aB wr h (aE O)
 far:∀k,h.XR=some k->w.heap.size<=k
 XQ:ae [] w wr
theorem zC.nil:zC S S ⟨none,0⟩ []:=⟨Tw _ _ _ _,(by intro k a;cases a),ae.refl _ _⟩
theorem zC.XN{b:World}{f:Xt}(a:zC i s z5 y0)(g:bq s b z5 z6)(o:aB b z6 (aE f)):zC i b z6 f:=by
 refine⟨o,fun k c=>?_,⟨g.XQ.os.trans a.XQ.os,g.XQ.tape.trans a.XQ.tape,g.XQ.output.trans a.XQ.output,TE a.XQ.size g.XQ.size,fun k c _=>?_⟩⟩
 ·rcases g.XR with e | ⟨q,e,d⟩
  ·exact a.far k (by rw[<-e];exact c)
  ·rw[e]at c;cases c;exact TE a.XQ.size d
 ·rw[g.XQ.block k (Tv c a.XQ.size) (fun d=>by have:=a.far _ (aQ d);omega),a.XQ.block k c (by simp)]
theorem qk{g:Array Oper}{b:List Oper}{o:Oper}{a:Act}{Q:Exit->Act->World->Prop}(y:o.guard=none)(s x:Operand)(l:o.op=Op.call { callee:=Callee.builtin Builtin.append,args:=#[s,x],argTypes:=#[61,61] })(h:Hd)(L:Xt)(t:Xs)(C:a.eval s=slice h.ao L.length h.cap)(e:aB S h (aE L))(H:L.length<=1000000)(E:a.eval x=slice (some ⟨S.heap.size,0,none⟩) 1 1)(w:∀i q,aB q i (aE (L++[t]))->bq S q h i->wpList prog g Q b (a.put o.dst (slice i.ao (L.length+1) i.cap)) q) :
  wpList prog g Q (o :: b) a (S.alloc (.cells #[string t] 9)):=by
 obtain⟨F,z,m,n,p⟩:=TY ke;have r:ae [] S (S.alloc (.cells #[string t] 9)):=kr0.alloc _;have B:(S.alloc (.cells #[string t] 9)).heap[S.heap.size]?=some (.cells #[string t] 9):=Ts _ _;refine aL _ y s x 61 l F (string ⟨#[]⟩) 16 h (aE L) underlying61 z m n p rfl TQ C (e.XD r) ⟨S.heap.size,0,none⟩ 1 1 [string t] E rfl ?_ ?_ TQ (by simp only[aE];unfold maxLen;omega) (by simp only[aE];omega) ?_
 ·intro j u A;rw[bX,ah B];simpa using A
 ·intro u D;rw[TH.1 D];rfl
 ·intro v c G f d k;rw[dW]at f;exact w ⟨some ⟨v,0,none⟩,c⟩ G f ((bq.XD r).trans (bq.made d k))
theorem mo(S:List Sm)(z:Xu)(M:Nat)(w:World)(p:gx w n H I x S z M)(hj:l<S.length)(hT:H.length<=100000)(V:dU H S[l].h) :
  Calls prog 73 #[pointer (some ⟨n,0,none⟩),int i64 l] w fun e w'=>∃a,e=returned (slice a.ao (bB H S[l].h).length a.cap)/\zC w w' a (bB H S[l].h):=by
 obtain⟨gS,rfl,X,-,-,q2,-⟩:=p.s.2 l S[l] (Tm hj);generalize S[l].h=b at *;obtain⟨e,e1,N,P⟩:=V;obtain⟨R,rfl,Y,-⟩:=p.t.2 e _ (jc H e N);have F:Xr _:=p;obtain⟨E,L,hb⟩:=p.cells;have ac:(l:Int)<S.length:=by omega
 have J:Xr _:=zC.nil w;clear p;go_enter func73,ntmps73;go_wp2;clear E L q2
 go_loopg [5,6] (H.length-b) (fun g o i wr=>∃(k:Nat) (a:Hd) (O:Xt),(b<=k/\k<=e)/\g=H.length-k/\o=slice a.ao O.length a.cap/\i=int i64 k/\O.length<=k/\Xr (O++lI (H.drop k)=bB H b)/\Xr (zC w wr a O))
 ·exact⟨b,⟨none,0⟩,[],⟨by omega,by omega⟩,rfl,rfl,rfl,Ub _,rfl,J⟩
 obtain⟨k,a,O,⟨ad,af⟩,hg,rfl,rfl,hO,c,m⟩:=hrel;have r:k<H.length:=by omega
 have f:Xr _:=gx.XD F.o m.o.XQ;obtain⟨E,-,W⟩:=f.o.cells;obtain⟨T,Q,Z,D,-⟩:=f.o.t.2 k _ (jc H k r);cases Q
 replace D:wr.cell? ⟨R,k*5,none⟩=some (string (tS H k)):=D;have ai:(k:Int)<H.length:=by omega
 have G:Xr _:=Id H k r;rw[G.o,lI]at c;have c:Xr (O++(if nV (tS H k)=true then [] else tS H k :: lI (H.drop (k+1)))=bB H b):=c.o;have j:Xr (k=e->nV (tS H k)=true):=fun h=>by rw[h];exact P
 obtain⟨v,K⟩:=bn (tS H k);rw[K.o]at D c j;have C:=m.o.X6;obtain⟨al,Hn⟩:=bn (H.length);cases A:(v.toList == [36,61])
 ·cases B:(v.toList == [36,46])
  ·have ag:k<e:=by
    have:¬k=e:=fun h=>by have:=j.o h;unfold nV at this;rw[A,B]at this;cases this
    omega
   have d:Xr ((O++[v])++lI (H.drop (k+1))=bB H b):=by
    have:=c.o;rw[To (by unfold nV;rw[A,B];simp)]at this;show _=_;rw[<-this];simp
   go_wp2_with (at_builtin;refine qk _ rfl (.tmp 37) (.tmp 46) rfl a O v rfl C (by omega) rfl ?_;intro U w5 u q;have y:Xr _:=m.o.XN q u;clear u q);go_roundg (H.length-(k+1))
   ·exact⟨k+1,U,O++[v],⟨by omega,by omega⟩,rfl,by simp,by go_num,by simp;omega,d,y⟩
   omega
  ·have d:Xr (bB H b=O):=by
    have:=c.o;rw[Tq (by unfold nV;rw[B];simp)]at this;show _=_;rw[<-this];simp
   go_wp2;go_ret;exact⟨a,by rw[d.o];rfl,by rw[d.o];exact m.o⟩
 ·have d:Xr (bB H b=O):=by
   have:=c.o;rw[Tq (by unfold nV;rw[A];simp)]at this;show _=_;rw[<-this];simp
  go_wp2;go_ret;exact⟨a,by rw[d.o];rfl,by rw[d.o];exact m.o⟩
def bR(T:List Tk)(s:Sm):Xs:=if(aA s.k||aH s.k)=true then tS T s.a else⟨#[]⟩
theorem rx(S:List Sm)(m:Xu)(A:Nat)(w:World)(i:gx w n H I x S m A)(F:l<S.length)(u:S[l].a<H.length) :
  Calls prog 88 #[pointer (some ⟨n,0,none⟩),int i64 l] w fun e L=>e=returned (string (bR H S[l]))/\ae [] w L:=by
 obtain⟨O,rfl,D,J,-,-,K⟩:=i.s.2 l S[l] (Tm F);obtain⟨B,rfl,E,j,-⟩:=i.t.2 S[l].a _ (jc H _ u);have f:Xr (bR H S[l]=if(aA S[l].k||aH S[l].k)=true then tS H S[l].a else⟨#[]⟩):=rfl;replace j:w.cell? ⟨B,S[l].a*5,none⟩=some (string (tS H S[l].a)):=j;generalize bR H S[l]=R at *;generalize S[l]=s at *;obtain⟨q,T,Q,c⟩:=s;simp only at J K j f u;obtain⟨y,z⟩:=bn (tS H q);rw[z.o]at j f;obtain⟨M,N,P⟩:=i.cells;have G:(l:Int)<S.length:=by omega
 have C:(q:Int)<H.length:=by omega
 have v:(0:Int)<=(q:Int):=by omega
 clear i;cases p:aA c
 ·cases r:aH c
  ·have d:Xr (R=⟨#[]⟩):=(by show _=_;rw[f.o,p,r];rfl);go_enter func88,ntmps88;go_wp2_with (first | (go_at_call 123;refine(gW c _).mono ?_;rintro e g ⟨rfl,b⟩;rw[b];clear b) | (go_at_call 124;refine(mn c _).mono ?_;rintro e g ⟨rfl,b⟩;rw[b];clear b));go_ret;exact⟨by rw[d.o];rfl,ae.refl _ _⟩
  ·have d:Xr (R=y):=(by show _=_;rw[f.o,p,r];rfl);go_enter func88,ntmps88;(go_upto_region 4 with (first | (go_at_call 123;refine(gW c _).mono ?_;rintro e g ⟨rfl,b⟩;rw[b];clear b) | (go_at_call 124;refine(mn c _).mono ?_;rintro e g ⟨rfl,b⟩;rw[b];clear b)));go_region
   all_goals
    go_wp2;go_ret;exact⟨by rw[d.o];rfl,(ae.refl [] w).drew⟩
 ·have d:Xr (R=y):=by show _=_;rw[f.o,p];rfl
  go_enter func88,ntmps88;go_upto_region 4 with (first | (go_at_call 123;refine(gW c _).mono ?_;rintro e g ⟨rfl,b⟩;rw[b];clear b) | (go_at_call 124;refine(mn c _).mono ?_;rintro e g ⟨rfl,b⟩;rw[b];clear b))
  go_region
  all_goals
   go_wp2;go_ret;exact⟨by rw[d.o];rfl,(ae.refl [] w).drew⟩
def Tg:Sm:=⟨0,0,0,⟨#[]⟩⟩
def aq(S:List Sm)(j:Nat):Sm:=S.getD j Tg
theorem bV(S:List Sm)(j:Nat)(h:j<S.length):S[j]'h=aq S j:=by
 unfold aq;rw[Tn,Tm h];rfl
def oP(T:List Tk)(S:List Sm)(key x:Xs)(n:Nat)(act:Bool)(j:Nat):Bool:=((aq S j).k.toList==key.toList)&&(aK (bB T (aq S j).h) x&&(aO S j n || !act))
def jF(T:List Tk)(S:List Sm)(key x:Xs)(n:Nat)(act:Bool):Bool:=(List.range n).any (oP T S key x n act)
theorem eW{p:Nat->Bool}(h:∀j,j<y->p j=false)(a:p y=false):∀j,j<y+1->p j=false:=fun j b=>by
 by_cases e:j=y
 ·rw[e];exact a
 ·exact h j (by omega)
theorem pA(b:Bool)(T:List Tk)(t:Xu)(N:Nat)(S:List Sm)(K:Xu)(M:Nat)(w:World)(U:gx w L T t N S K M)(hn:n<=S.length)(hS:S.length<=100000)(hT:T.length<=100000)(hE:∀j,j<n->((aq S j).k.toList==o.toList)=true->dU T (aq S j).h) :
  Calls prog 213 #[pointer (some ⟨L,0,none⟩),string o,string d,int i64 n,bool b] w fun e D=>e=returned (bool (jF T S o d n b))/\ae [] w D:=by
 have H:Xr _:=U;clear U;go_enter func213,ntmps213;go_wp2
 go_loopg [11] n (fun g i wr=>∃k:Nat,k<=n/\g=n-k/\i=int i64 k/\Xr (∀j,j<k->oP T S o d n b j=false)/\Xr (ae [] w wr))
 ·exact⟨0,by omega,rfl,rfl,(fun j hj=>by omega),ae.refl _ _⟩
 obtain⟨k,hk,hg,rfl,E,C⟩:=hrel;by_cases u:k<n
 ·have p:k<S.length:=by omega
  have z:Xr _:=gx.XD H.o C.o;obtain⟨-,Z,hb⟩:=z.o.cells;obtain⟨gs,rfl,ad,-,-,-,q3⟩:=z.o.s.2 k S[k] (Tm p);have af:(k:Int)<(n:Int):=by omega
  have V:(k:Int)<S.length:=by omega
  have r:Xr (oP T S o d n b k=((S[k].k.toList==o.toList)&&(aK (bB T S[k].h) d&&(aO S k n || !b)))):=cg (by unfold oP;rw[bV S k p]);have A:Xr ((S[k].k.toList==o.toList)=true->dU T S[k].h):=by have:=hE k u;rw[<-bV S k p]at this;exact this
  have G:Xr ((S[k].k.toList==o.toList)=true->∀m,ae [] w m->Calls prog 73 #[pointer (some ⟨L,0,none⟩),int i64 k] m fun e D=>∃O,e=returned (slice O.ao (bB T S[k].h).length O.cap)/\zC m D O (bB T S[k].h)):=fun h m P=>mo L k T t N S _ M m (gx.XD H.o P) p hT (A.o h);have X:=lS T S[k].h;have y:Xr (∀m,ae [] w m->Calls prog 93 #[pointer (some ⟨L,0,none⟩),int i64 k,int i64 n] m fun e D=>e=returned (bool (aO S k n))/\D=m):=fun m P=>lQ L k n T t N S _ M m (gx.XD H.o P) (by omega) hn hS;clear A;generalize bB T S[k].h=B at *;generalize S[k].k=sk at *;obtain⟨Y,I⟩:=bn (aO S k n);rw[I.o]at r y;cases v:(sk.toList==o.toList)
  ·have l:Xr _:=eW E.o (by rw[r.o,v];rfl);go_wp2;go_roundg (n-(k+1))
   ·exact⟨k+1,by omega,rfl,by go_num,l,C⟩
   omega
  ·have F:Xr _:=G.o v;(go_upto_region 6 with (go_at_call 73;refine(F.o _ (by exact C.o)).mono ?_;rintro e W ⟨R,rfl,Q⟩));have f:Xr _:=C.o.trans Q.XQ;have c:Xr _:=(kN B R.ao R.cap d W Q.X6.srcX (by omega));clear Q Z q3;obtain⟨hs,J⟩:=bn (aK B d);rw[J.o]at c r;cases hs
   ·have l:Xr _:=eW E.o (by rw[r.o,v];rfl);go_wp2_with (go_at_call 94;refine Tr c.o ?_;rintro e x ⟨rfl,a⟩;rw[a];clear a);go_roundg (n-(k+1))
    ·exact⟨k+1,by omega,rfl,by go_num,l,f⟩
    omega
   ·have q:Xr _:=y.o W f.o;cases Y
    ·cases b
     ·have l:Xr (jF T S o d n false=true):=na k u (by rw[r.o,v];rfl);go_wp2_with (first | (go_at_call 94;refine Tr c.o ?_;rintro e x ⟨rfl,a⟩;rw[a];clear a) | (go_at_call 93;refine Tr q.o ?_;rintro e x ⟨rfl,a⟩;rw[a];clear a));go_ret;exact⟨aF l.o.symm,f.o⟩
     ·have l:Xr _:=eW E.o (by rw[r.o,v];rfl);go_wp2_with (first | (go_at_call 94;refine Tr c.o ?_;rintro e x ⟨rfl,a⟩;rw[a];clear a) | (go_at_call 93;refine Tr q.o ?_;rintro e x ⟨rfl,a⟩;rw[a];clear a));go_roundg (n-(k+1))
      ·exact⟨k+1,by omega,rfl,by go_num,l,f⟩
      omega
    ·have l:Xr (jF T S o d n b=true):=na k u (by rw[r.o,v];simp);go_wp2_with (first | (go_at_call 94;refine Tr c.o ?_;rintro e x ⟨rfl,a⟩;rw[a];clear a) | (go_at_call 93;refine Tr q.o ?_;rintro e x ⟨rfl,a⟩;rw[a];clear a));go_ret;exact⟨aF l.o.symm,f.o⟩
 ·have l:Xr (jF T S o d n b=false):=uP (fun j hj=>E.o j (by omega));go_wp2;go_ret;exact⟨aF l.o.symm,C.o⟩
def wC(T:List Tk)(S:List Sm)(n:Nat)(key:List UInt8):Prop:=∀j,j<n->((aq S j).k.toList==key)=true->dU T (aq S j).h
theorem oX:(⟨#[36,99]⟩:Xs).toList=[36,99]/\(⟨#[36,118]⟩:Xs).toList=[36,118]:=by decide +kernel
def eK(T:List Tk)(S:List Sm)(x:Xs)(n:Nat):Bool:=jF T S ⟨#[36,99]⟩ x n false
def iE(T:List Tk)(S:List Sm)(x:Xs)(n:Nat):Bool:=jF T S ⟨#[36,118]⟩ x n true
set_option maxRecDepth 512
theorem uS(S:List Sm)(a:Xu)(b:Nat)(w:World)(d:gx w L H I x S a b)(j:n<=S.length)(g:S.length<=100000)(i:H.length<=100000)(f:wC H S n [36,99]) :
  Calls prog 173 #[pointer (some ⟨L,0,none⟩),string o,int i64 n] w fun e l=>e=returned (bool (eK H S o n))/\ae [] w l:=by
 have c:Xr _:=(pA L n ⟨#[36,99]⟩ o false H I x S a b w d j g i (by rw[oX.1];exact f));go_enter func173,ntmps173;go_wp2_with fail;refine Tr c.o ?_;rintro e m ⟨rfl,k⟩;go_wp2;go_ret;exact⟨rfl,k⟩
theorem Ch(S:List Sm)(a:Xu)(b:Nat)(w:World)(d:gx w L H I x S a b)(j:n<=S.length)(g:S.length<=100000)(i:H.length<=100000)(f:wC H S n [36,118]) :
  Calls prog 174 #[pointer (some ⟨L,0,none⟩),string o,int i64 n] w fun e l=>e=returned (bool (iE H S o n))/\ae [] w l:=by
 have c:Xr _:=(pA L n ⟨#[36,118]⟩ o true H I x S a b w d j g i (by rw[oX.2];exact f));go_enter func174,ntmps174;go_wp2_with fail;refine Tr c.o ?_;rintro e m ⟨rfl,k⟩;go_wp2;go_ret;exact⟨rfl,k⟩
def mO(T:List Tk)(S:List Sm)(x:Xs)(j:Nat):Bool:=!((bR T (aq S j)).toList == [])&&((bR T (aq S j)).toList==x.toList)
def bC(T:List Tk)(S:List Sm)(x:Xs)(n:Nat):Int:=match (List.range n).find? (mO T S x) with
 | some j=>j
 | none=>-1
theorem ub{S:List Sm}(c:z0<y)(h:mO v S N z0=true)(a:∀j,j<z0->mO v S N j=false):bC v S N y=z0:=by
 have e:(List.range y).find? (mO v S N)=some z0:=by
  rw[US];exact⟨h,TF.2 c,fun j b=>by rw[a j b];rfl⟩
 unfold bC;rw[e]
theorem Do{S:List Sm}(a:∀j,j<y->mO v S N j=false):bC v S N y=-1:=by
 have e:(List.range y).find? (mO v S N)=none:=by
  rw[UD];intro j b;rw[a j (TF.1 b)];simp
 unfold bC;rw[e]
set_option maxRecDepth 100000
theorem pG(S:List Sm)(p:Xu)(u:Nat)(w:World)(z:gx w L H I x S p u)(M:n<=S.length)(G:S.length<=100000)(C:∀j,j<n->(aq S j).a<H.length) :
  Calls prog 172 #[pointer (some ⟨L,0,none⟩),string o,int i64 n] w fun e F=>e=returned (int i64 (bC H S o n))/\ae [] w F:=by
 have B:Xr _:=z;clear z;go_enter func172,ntmps172;go_wp2
 go_loopg [7] n (fun g i wr=>∃k:Nat,k<=n/\g=n-k/\i=int i64 k/\Xr (∀j,j<k->mO H S o j=false)/\Xr (ae [] w wr))
 ·exact⟨0,by omega,rfl,rfl,(fun j D=>by omega),ae.refl _ _⟩
 obtain⟨k,K,J,rfl,s,m⟩:=hrel;by_cases q:k<n
 ·have f:k<S.length:=by omega
  have E:(k:Int)<(n:Int):=by omega
  have t:Xr (mO H S o k=(!((bR H S[k]).toList == [])&&((bR H S[k]).toList==o.toList))):=cg (by unfold mO;rw[bV S k f]);have c:Xr _:=(rx L k H I x S p u wr (gx.XD B.o m.o) f (by rw[bV S k f];exact C k q));generalize bR H S[k]=l at *;cases v:(l.toList == [])
  ·cases y:(l.toList==o.toList)
   ·have d:Xr _:=eW s.o (by rw[t.o,y];simp);go_wp2_with (go_at_call 88;refine Tr c.o ?_;rintro e A ⟨rfl,r⟩;have b:Xr _:=m.o.trans r);go_roundg (n-(k+1))
    ·exact⟨k+1,by omega,rfl,by go_num,d,b⟩
    omega
   ·have d:Xr (bC H S o n=k):=ub q (by rw[t.o,v,y];rfl) s.o;go_wp2_with (go_at_call 88;refine Tr c.o ?_;rintro e A ⟨rfl,r⟩;have b:Xr _:=m.o.trans r);go_ret;exact⟨au d.o.symm,b.o⟩
  ·have d:Xr _:=eW s.o (by rw[t.o,v];rfl);go_wp2_with (go_at_call 88;refine Tr c.o ?_;rintro e A ⟨rfl,r⟩;have b:Xr _:=m.o.trans r);go_roundg (n-(k+1))
   ·exact⟨k+1,by omega,rfl,by go_num,d,b⟩
   omega
 ·have d:Xr (bC H S o n=-1):=Do (fun j D=>s.o j (by omega));go_wp2;go_ret;exact⟨au d.o.symm,m.o⟩
end Go.Proofs.YtnbhnocdhbcbcaaGreat
