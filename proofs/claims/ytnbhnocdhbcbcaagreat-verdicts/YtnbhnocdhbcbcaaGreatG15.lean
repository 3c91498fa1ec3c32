import Derived.Deep.RegionHeld3
import Derived.Test.YtnbhnocdhbcbcaaGreatG14
namespace Go.Proofs.YtnbhnocdhbcbcaaGreat
open Go.RowKit Tryz
open Value IntKind Ending
set_option maxHeartbeats 0
variable{i s:World}{y z0 z4:Nat}{g:Fs}{c:List Bool}{z5 z6:Hd}{v m:List Tk}{z7:Nat->List Bool->List Tk->List Tk×List Bool}{M:Tk}{N:ByteArray}{u zb:Option Addr}{zt:List ByteArray}(L:Nat)(f:Fs)(n:Nat)(o:ByteArray)(l:Nat)(H:List Tk)(k:List ByteArray)(I:Option Addr)(D:Nat)(d:ByteArray)(S:World)(x:Nat)
def Lb(w:World)(gs:Nat)(sn:List Bool)(h:Hd)(out:List Tk)(R:List Tk×List Bool)(e:Ending)(w':World):Prop :=
 ∃h',e=returned (slice h'.ao R.1.length h'.cap)/\aC w' h' (iV R.1)/\jN w' gs R.2/\yj w w' gs h h'/\R.2.length=sn.length/\R.1.length+2000*aU R.2<=out.length+2000*aU sn/\aU R.2<=aU sn
structure KP(w wr:World)(gf cap:Nat)(fs:Fs)(gs:Nat)(sn:List Bool)(h h':Hd)(O:List Tk)(gT capT:Nat)(T:List Tk):Prop where
 i:vE wr gf cap fs gs sn h' O
 r:yj w wr gs h h'
 t:aC wr ⟨some ⟨gT,0,none⟩,capT⟩ (iV T)
 b1:h'.blk≠some gT
 b2:gT≠gs
section
variable {w wr wr':World} {gf cap:Nat} {fs:Fs} {gs:Nat} {sn sn':List Bool} {h h' h'':Hd} {O O':List Tk} {gT capT:Nat} {T:List Tk}
theorem KP.turn(a:KP w wr gf cap fs gs sn h h' O gT capT T)(r:yj wr wr' gs h' h'')(o:aC wr' h'' (iV O'))(s:jN wr' gs sn'):KP w wr' gf cap fs gs sn' h h'' O' gT capT T:=by
 have f:gT<wr.heap.size:=a.t.lt rfl;refine⟨a.i.turn r o s,a.r.trans r,a.t.Wo (fun q c=>r.kept.block q (a.t.lt c) (fun b=>?_)),?_,a.b2⟩
 ·have e:q=gT:=by cases c;rfl
  subst e;rcases Sv.1 b with e | b
  ·exact a.b2 e
  ·exact a.b1 (aQ b)
 ·rcases r.blk with e | ⟨g,e,d⟩
  ·rw[e];exact a.b1
  ·rw[e];intro q;cases q;omega
theorem KP.Wt(a:KP w wr gf cap fs gs sn h h' O gT capT T)(g:bI wr wr' h' h'')(o:aC wr' h'' (iV O')):KP w wr' gf cap fs gs sn h h'' O' gT capT T :=
 a.turn (yj.of g) o (a.i.seen.kept g.kept (fun b=>a.i.a1 (aQ b)))
theorem KP.Wj(a:KP w wr gf cap fs gs sn h h' O gT capT T)(k:aa [] wr wr'):KP w wr' gf cap fs gs sn h h' O gT capT T :=
 a.Wt (bI.Wj k) (a.i.own.Wj k)
end
theorem ph{b:List Bool}{j d:Nat}{T:List Tk}{R:List Tk×List Bool}(a:KP i s y z0 g z4 b z5 z6 m j d T)(e:R=(m,b))(n:b.length=c.length)(k:m.length+2000*aU b<=v.length+2000*aU c)(l:aU b<=aU c){f:Nat}(o:f=m.length):Lb i z4 c z5 v R (returned (slice z6.ao f z6.cap)) s:=by
 subst e;subst o;exact⟨z6,rfl,a.i.own,a.i.seen,a.r,n,k,l⟩
theorem zw(h:((M.rule==0)&&(M.s.toList == []))=true):cN z7 g (M :: v) c m=((if du m=true then m else m++[rr M 7]),c):=by
 rw[cN.eq_def];simp only;rw[RY h]
theorem Fk(h:((M.rule==0)&&(M.s.toList == []))=false)(a:(M.s.toList == [36,91])=false):cN z7 g (M :: v) c m=cN z7 g v c (m++[M]):=by
 rw[cN.eq_def];simp only;rw[RU (by rw[h];simp),RY a]
theorem JT(h:((M.rule==0)&&(M.s.toList == []))=false)(a:(M.s.toList == [36,91])=true)(b:du m=false):cN z7 g (M :: v) c m=(m++[rr M 4],c):=by
 rw[cN.eq_def];simp only;rw[RU (by rw[h];simp),RU (by rw[a];simp),RY b]
theorem C9{a:Tk}(h:((M.rule==0)&&(M.s.toList == []))=false)(d:(M.s.toList == [36,91])=true)(e:du m=true)(f:(dy g a.s a.rule==0)=false):cN z7 g (M :: a :: v) c m=(m++[rr a (dy g a.s a.rule)],c):=by
 rw[cN.eq_def];simp only;rw[RU (by rw[h];simp),RU (by rw[d];simp),RU (by rw[e];simp)];cases v with
 | nil=>rfl
 | cons b v=>simp only;rw[RY f]
theorem JS{rec:Nat->List Bool->List Tk->List Tk×List Bool}{fs:Fs}{t a b:Tk}{r:List Tk}{sn:List Bool}(h:((t.rule==0)&&(t.s.toList == []))=false)(c:(t.s.toList == [36,91])=true)(d:du v=true)(e:(dy fs a.s a.rule==0)=true):cN rec fs (t :: a :: b :: r) sn v =
  if(dS b.s b.rule==0)=false then(v++[rr b (dS b.s b.rule)],sn)
  else if sn.getD (bM fs a.s).toNat true=true then cN rec fs r sn v
  else if eO (rec (bM fs a.s).toNat sn v).1=true then rec (bM fs a.s).toNat sn v
  else cN rec fs r (rec (bM fs a.s).toNat sn v).2 (rec (bM fs a.s).toNat sn v).1:=by
 rw[cN.eq_def];simp only;rw[RU (by rw[h];simp),RU (by rw[c];simp),RU (by rw[d];simp),RU (by rw[e];simp)]
theorem Ck(a:Fs)(i:Nat):dD d a i<(i:Int)+a.length∨a.length=0:=by
 induction a generalizing i with
 | nil=>exact RZ rfl
 | cons f r b =>
  left
  rw[dD];split
  ·simp;omega
  ·rcases b (i+1) with h | h
   ·simp at h ⊢;omega
   ·rw[Sw h,dD];simp;omega
theorem N5(h:0<=bM g N):bM g N<g.length:=by
 unfold bM at h ⊢;rcases Ck N g 0 with e | e
 ·simpa using e
 ·rw[Sw e,dD]at h;omega
theorem E3{r:Int}(h:(dy g N r==0)=true):(N.toList == [])=false/\0<=bM g N:=by
 unfold dy at h;cases a:(r==0)
 ·rw[RY a,a]at h;cases h
 ·rw[RU (by rw[a];simp)]at h;cases b:(N.toList == [])
  ·rw[RU (by rw[b];simp)]at h;refine⟨rfl,?_⟩;split at h
   ·cases h
   ·split at h
    ·cases h
    ·omega
  ·rw[RY b]at h;cases h
set_option maxRecDepth 100000
theorem JU(c8:f.length<=4)(cs:∀k,(ak f k).size<=1024)(n:Nat):∀(k:Nat) (m:List Bool) (j:List Tk) (h:Hd) (L F:Nat) (w:World),aU m<=n->m.length=f.length->f.length<=F->k<f.length->m[k]?=some false->j.length+2000*aU m<=100000->vE w D x f L m h j ->
  Calls prog 83 #[slice (some ⟨D,0,none⟩) f.length x,int i64 k,slice (some ⟨L,0,none⟩) f.length F,slice h.ao j.length h.cap] w fun e w'=>Lb w L m h j (eD f n k m j) e w':=by
 induction n with
 | zero=>intro k m j h L F w hn b5 b4 hk hs;have:=FS m k hs;omega
 | succ n ih =>
  intro k m j h L F w hn b5 b4 hk hs hb hI;have ch:Hid _:=ih;clear ih;have dl:(k:Int)<f.length:=by omega
  have s0:=hI.seen.cell k false hs;have s1:=am hI.seen k;have dg:=ae hI.seen;have cP:=hI.src.1;have k1:aa [L] w (w.setCell ⟨L,k,none⟩ (bool true)):=(aa.refl [L] w).setCell (R4 (by simp)) _;obtain⟨w1,aS⟩:∃w1,Hid (w.setCell ⟨L,k,none⟩ (bool true)=w1):=⟨_,rfl⟩
  rw[aS.out]at k1;have R1:yj w w1 L h h:=⟨k1.mono (fun dz hx _=>by simp at hx;simp[hx]),R4 rfl⟩;have a6:vE w1 D x f L (m.set k true) h j:=hI.turn R1 (hI.own.Wo (fun q hq=>k1.block q (hI.own.lt hq) (by simp;intro e;exact hI.a1 (by rw[<-e];exact hq)))) (by rw[<-aS.out];exact hI.seen.set k);have hu:=lT m k hs;have cy:(m.set k true).length=f.length:=by rw[SS];exact b5
  obtain⟨c5,e1,cu,c0,c1⟩:=a6.src.2 k hk;cases e1
  have c7:=cs k;have bp:Hid _:=DB f k;have an:Hid _:=Nx f k;have bv:Hid _:=Ky f k;have HT:Hid (rD f k=bV false (iA (aD f k) (ak f k))):=rfl;have HR:Hid (eD f (n+1) k m j=cN (eD f n) f (rD f k) (m.set k true) j):=rfl;have bx:Hid _:=yi (aD f k) (ak f k);have cH:=zU (aD f k) (ak f k);obtain⟨R,ck⟩:∃R,Hid (eD f (n+1) k m j=R):=⟨_,rfl⟩
  rw[ck.out]at HR ⊢;have ai:Hid _:=a6;have bg:Hid _:=R1;clear a6 R1 k1 hI;go_enter func83,ntmps83;go_upto_region 2 with fail
  rw[aS.out];go_upto_region 3 with (go_at_call 116;refine(Ge _ _ _ (by omega)).mono ?_;rintro e w2 ⟨hW,rfl,oW,kW,fW⟩)
  have I:Hid _:=(Iw (iA (aD f k) (ak f k)) hW.ao hW.cap w2 (by omega) oW.src (fun t ht=>by have:=bx.out t ht;omega));rw[<-HT.out]at I;go_upto_region 4 with (go_at_call 117;refine(R0 I.out ?_);rintro e w3 ⟨hT,rfl,bT⟩)
  obtain⟨T,co⟩:∃T,Hid (rD f k=T):=⟨_,rfl⟩
  rw[co.out]at bp an bv HR bT ⊢;have cq:0<T.length:=by
   obtain⟨u,e1,-⟩:=an.out;cases T with
   | nil=>cases e1
   | cons _ _=>simp
  obtain⟨gT,eT,db,b0⟩:=qK bT.own cq;obtain⟨cX,S⟩:=hT;simp only at eT;subst eT;have b0:T.length<=S:=b0;have c6:T.length<=1026:=by have:=bp.out;omega
  have cl:Hid (KP w w3 D x f L (m.set k true) h h j gT S T):=by
   have f1:=bT.far gT rfl;have f2:=kW.size;have f3:=ae ai.out.seen;refine⟨(ai.out.Wj kW).Wj bT.kept,bg.out.trans (yj.of (bI.Wj (kW.trans bT.kept))),bT.own,fun e=>?_,by omega⟩;have:=ai.out.own.lt e;omega
  obtain⟨U1,a5⟩:∃U1,Hid (aU (m.set k true)=U1):=⟨_,rfl⟩
  obtain⟨U,K⟩:∃U,Hid (aU m=U):=⟨_,rfl⟩
  rw[a5.out]at hu;rw[K.out]at hu hn hb;clear c0 c1 s0 s1 cu ai bg aS oW kW fW I bT bx HT cH;go_wp2
  go_loopg [3,11] T.length (fun g o i wr=>∃(q:Nat) (N:Hd) (O:List Tk) (c:List Bool),q<=T.length/\g=T.length-q/\o=slice N.ao O.length N.cap/\i=int i64 q/\(O.length+2000*aU c<=j.length+q+2000*U1/\aU c<=U1/\c.length=f.length)/\Hid (cN (eD f n) f (T.drop q) c O=R)/\Hid (KP w wr D x f L c h N O gT S T))
  case atStart=>exact⟨0,h,j,m.set k true,by omega,rfl,rfl,rfl,⟨by rw[a5.out];omega,by rw[a5.out];omega,cy⟩,by show _=_;rw[U0];exact HR.out.symm,cl⟩
  case round =>
   obtain⟨q,N,O,c,hq,hg,rfl,rfl,⟨z1,z2,z3⟩,Z,J⟩:=hrel;obtain⟨U2,d⟩:∃U2,Hid (aU c=U2):=⟨_,rfl⟩
   rw[d.out]at z1 z2;by_cases ba:q<T.length
   ·have dp:(q:Int)<T.length:=(by omega);obtain⟨c0,c1,c2,c3,c4⟩:=qx J.out.t rfl q T[q] (RQ ba);have HD:Hid _:=Sq ba;have bd:Hid ((T[q].s.toList == [])=false->q+1<T.length):=fun he=>vC.next an.out q _ (RQ ba) he;rw[HD.out]at Z;obtain⟨bw,M⟩:∃bw,Hid (du O=bw):=⟨_,rfl⟩
    have a0:Hid _:=(Ag O N.ao N.cap wr (by omega) J.out.i.own.src);rw[M.out]at a0;have df:gT<wr.heap.size:=J.out.t.lt rfl;generalize T[q]=t at *;obtain⟨H,P,tf,tl,tc⟩:=t;simp only at c0 c1 c2 c3 c4 bd;(go_upto_region 8 with (go_at_call 118;refine R0 a0.out ?_;rintro e w4 ⟨rfl,b6⟩;rw[b6];clear b6));clear a0
    go_cut [47] from 34 to 47 (fun cL wd=>cL=bool ((P==0)&&(H.toList == []))/\wd=wr)
    case first =>
     cases hr:(P==0)
     ·go_wp2_with fail;go_meet
      case rel=>exact⟨by rw[hr];rfl,rfl⟩
     ·cases he:(H.toList == [])
      all_goals
       go_wp2_with fail;go_meet
       case rel=>exact⟨by rw[hr,he];rfl,rfl⟩
    case rest =>
     obtain⟨rfl,cF⟩:=hcut;subst cF;cases hA:((P==0)&&(H.toList == []))
     ·cases hi:(H.toList == [36,91])
      ·have E:Hid (cN (eD f n) f (T.drop (q+1)) c (O++[⟨H,P,tf,tl,tc⟩])=R):=(by show _=_;rw[<-Z.out];exact(Fk hA hi).symm);go_wp2_with (at_builtin;refine b9 _ rfl (.tmp 66) (.tmp 71) rfl N O ⟨H,P,tf,tl,tc⟩ rfl J.out.i.own (by omega) rfl ?_;intro h5 X y v;have HM:Hid _:=J.out.Wt v y;clear y v);go_roundg (T.length-(q+1))
       case measure=>omega
       case rel=>exact⟨q+1,h5,O++[⟨H,P,tf,tl,tc⟩],c,by omega,rfl,by simp,by go_num,⟨by rw[d.out];simp;omega,by rw[d.out];exact z2,z3⟩,E,HM⟩
      ·cases bw
       ·have E:Hid (R=(O++[rr ⟨H,P,tf,tl,tc⟩ 4],c)):=(by show _=_;rw[<-Z.out];exact JT hA hi M.out);have A:(O++[rr ⟨H,P,tf,tl,tc⟩ 4]).length+2000*aU c<=j.length+2000*aU m:=(by rw[d.out,K.out];simp;omega);have l:aU c<=aU m:=(by rw[d.out,K.out];omega);go_wp2_with (at_builtin;refine b9 _ rfl (.tmp 75) (.tmp 82) rfl N O (rr ⟨H,P,tf,tl,tc⟩ 4) rfl J.out.i.own (by omega) rfl ?_;intro h5 X y v;have HM:Hid _:=J.out.Wt v y;clear y v);go_ret;exact ph HM.out E.out (by omega) A l (by simp)
       ·have he:(H.toList == [])=false:=by
         have e:H.toList=[36,91]:=(by simpa using hi);rw[e];rfl
        have V:=bd.out he;obtain⟨d0,d1,d2,d3,d4⟩:=qx J.out.t rfl (q+1) T[q+1] (RQ V);have cc:Hid _:=Sq V;rw[cc.out]at Z;have cB:=bv.out T[q+1] (Sj V);have aT:Hid ((T[q+1].s.toList == [])=false->q+1+1<T.length):=fun he=>vC.next an.out (q+1) _ (RQ V) he;have ca:Hid (T[q+1]?=some T[q+1]):=RQ V;generalize T[q+1]=a at *;obtain⟨Y,ar,af,al,ac⟩:=a;simp only at d0 d1 d2 d3 d4 aT cB;have cT:(q:Int)+1<T.length:=(by omega);obtain⟨r1,az⟩:∃r1,Hid (dy f Y ar=r1):=⟨_,rfl⟩
        have a3:Hid _:=(E1 f (some ⟨D,0,none⟩) x Y af ar al ac _ (by omega) J.out.i.src (by omega));rw[az.out]at a3;(go_upto_region 17 with (go_at_call 119;refine R0 a3.out ?_;rintro e X ⟨rfl,k5⟩));obtain⟨W5,ap⟩:∃W5,Hid (X.alloc (.cells #[string ⟨#[]⟩,int i64 r1,string af,int i64 al,int i64 ac] 138)=W5):=⟨_,rfl⟩
        have ad:=fY ap.out;have K5:=k5.trans (show aa [] X W5 by rw[<-ap.out];exact(aa.refl [] _).alloc _);have a4:Hid _:=J.out.Wj K5;have ds:=ae ad;have W:=k5.size;rw[ap.out];clear c0 c1 c2 c3 c4 d0 d1 d2 d3 d4 ap a3 k5;obtain⟨p0,p1,p2,p3,p4⟩:=nR ad;cases h1:(r1==0)
        ·have E:Hid (R=(O++[rr ⟨Y,ar,af,al,ac⟩ r1],c)):=(by show _=_;rw[<-Z.out,C9 hA hi M.out (by show(dy f Y ar==0)=false;rw[az.out];exact h1)];simp only;rw[az.out]);have A:(O++[rr ⟨Y,ar,af,al,ac⟩ r1]).length+2000*aU c<=j.length+2000*aU m:=(by rw[d.out,K.out];simp;omega);have l:aU c<=aU m:=(by rw[d.out,K.out];omega);go_wp2_with (at_builtin;refine b9 _ rfl (.tmp 103) (.tmp 105) rfl N O (rr ⟨Y,ar,af,al,ac⟩ r1) rfl a4.out.i.own (by omega) rfl ?_;intro h5 w8 y v;have HM:Hid _:=a4.out.Wt v y;clear y v);go_ret;exact ph HM.out E.out (by omega) A l (by simp)
        ·have cz:r1=0:=(by simpa using h1);subst cz;clear h1;have be:Hid ((dy f Y ar==0)=true):=by show _=_;rw[az.out];rfl
         obtain⟨cE,b1⟩:=E3 be.out;have b3:q+2<T.length:=aT.out cE;obtain⟨d0,d1,d2,d3,d4⟩:=qx a4.out.t rfl (q+2) T[q+2] (RQ b3);have cf:Hid (T.drop (q+1+1)=T[q+2] :: T.drop (q+3)):=Sq b3;rw[cf.out]at Z;generalize T[q+2]=b at *;obtain⟨bs,br,bf,bl,bc⟩:=b;simp only at d0 d1 d2 d3 d4;have cV:(q:Int)+2<T.length:=(by omega);obtain⟨r2,bz⟩:∃r2,Hid (dS bs br=r2):=⟨_,rfl⟩
         have a2:Hid _:=BN bs bf br bl bc W5;rw[bz.out]at a2;have p:Hid _:=JS (rec:=eD f n) (fs:=f) (r:=T.drop (q+3)) (sn:=c) (t:=⟨H,P,tf,tl,tc⟩) (a:=⟨Y,ar,af,al,ac⟩) (b:=⟨bs,br,bf,bl,bc⟩) hA hi M.out be.out;rw[Z.out]at p;simp only at p;rw[bz.out]at p;(go_upto_region 19 with (go_at_call 120;refine R0 a2.out ?_;rintro e w6 ⟨rfl,k6⟩;have z:=k6.get ad (by simp);have f0:=am z 0;have f1:=am z 1;have f2:=am z 2;have f3:=am z 3;have f4:=am z 4;have o0:=aj z 0;have o1:=aj z 1;have o2:=aj z 2;have o3:=aj z 3;have o4:=aj z 4;have dt:=ae z));obtain⟨W6,ax⟩:∃W6,Hid (((((w6.setCell ⟨X.heap.size,0,none⟩ (string ⟨#[]⟩)).setCell ⟨X.heap.size,1,none⟩ (int i64 r2)).setCell ⟨X.heap.size,2,none⟩ (string bf)).setCell ⟨X.heap.size,3,none⟩ (int i64 bl)).setCell ⟨X.heap.size,4,none⟩ (int i64 bc)=W6):=⟨_,rfl⟩
         have K6:=(show Hid (aa [] _ W6) by rw[<-ax.out];exact(((((K5.trans k6).setCell (RZ (by exact W)) _).setCell (RZ (by exact W)) _).setCell (RZ (by exact W)) _).setCell (RZ (by exact W)) _).setCell (RZ (by exact W)) _);have C:Hid _:=J.out.Wj K6.out;have BX:W6.heap[X.heap.size]?=some (.cells #[string ⟨#[]⟩,int i64 r2,string bf,int i64 bl,int i64 bc] 138):=by
          rw[<-ax.out,ah (ah (ah (ah (ah z 0 _) 1 _) 2 _) 3 _) 4 _];rfl
         rw[ax.out];clear p0 p1 p2 p3 p4 d0 d1 d2 d3 d4 f0 f1 f2 f3 f4 o0 o1 o2 o3 o4 a2 ax ad z K6 k6 K5;obtain⟨p0,p1,p2,p3,p4⟩:=nR BX;have dv:=ae BX;cases h2:(r2==0)
         ·have E:Hid (R=(O++[rr ⟨bs,br,bf,bl,bc⟩ r2],c)):=(by show _=_;rw[p.out,RY h2]);have A:(O++[rr ⟨bs,br,bf,bl,bc⟩ r2]).length+2000*aU c<=j.length+2000*aU m:=(by rw[d.out,K.out];simp;omega);have l:aU c<=aU m:=(by rw[d.out,K.out];omega);go_wp2_with (at_builtin;refine b9 _ rfl (.tmp 103) (.tmp 105) rfl N O (rr ⟨bs,br,bf,bl,bc⟩ r2) rfl C.out.i.own (by omega) rfl ?_;intro h5 w8 y v;have HM:Hid _:=C.out.Wt v y;clear y v);go_ret;exact ph HM.out E.out (by omega) A l (by simp)
         ·have cA:r2=0:=(by simpa using h2);subst cA;clear h2;rw[RU (by simp)]at p;obtain⟨jn,b2⟩:∃jn:Nat,bM f Y=(jn:Int):=⟨(bM f Y).toNat,by omega⟩
          have cx:jn<f.length:=(by have:=N5 b1;omega);have dk:(jn:Int)<f.length:=(by omega);have cS:(0:Int)<=(jn:Int):=(by omega);have ag:Hid _:=(mX f (some ⟨D,0,none⟩) x Y W6 (by omega) C.out.i.src);rw[b2]at ag p;rw[SO]at p;obtain⟨e0,-⟩:=qx C.out.t rfl (q+1) _ ca.out;simp only at e0;obtain⟨bj,a7⟩:∃bj,c[jn]?=some bj:=⟨_,RQ (by omega)⟩
          have sj:=C.out.i.seen.cell jn bj a7;have ct:c.getD jn true=bj:=(by rw[RT,a7];rfl);rw[ct]at p;have c9:=ae C.out.i.seen;have cR:gT<W6.heap.size:=C.out.t.lt rfl;clear b2 b1;cases bj
          ·rw[RU (by simp)]at p;have Q:Hid _:=(ch.out jn c O N L F W6 (by rw[d.out];omega) z3 b4 cx a7 (by rw[d.out];omega) C.out.i);obtain⟨R7,cj⟩:∃R7,Hid (eD f n jn c O=R7):=⟨_,rfl⟩
           rw[cj.out]at Q p;obtain⟨O7,G⟩:=R7;(go_upto_region 24 with (first | (go_at_call 36;refine R0 ag.out ?_;rintro e w9 ⟨rfl,B⟩;rw[B];clear B) | (go_at_call 83;refine R0 Q.out ?_;rintro e w7 ⟨h7,rfl,o7,s7,r7,l7,n7,u7⟩;have bo:Hid _:=C.out.turn r7 o7 s7)));clear p0 p1 p2 p3 p4 e0 sj Q ag BX;have l7:G.length=c.length:=l7;have n7:O7.length+2000*aU G<=O.length+2000*aU c:=n7;have u7:aU G<=aU c:=u7;obtain⟨bk,cb⟩:∃bk,Hid (eO O7=bk):=⟨_,rfl⟩
           have cp:O7.length<=100000:=(by rw[d.out]at n7;omega);have I:Hid _:=vh O7 h7.ao h7.cap w7 cp o7.src;rw[cb.out]at I p;rw[d.out]at n7 u7;clear o7 s7 r7;cases bk
           ·have E:Hid (cN (eD f n) f (T.drop (q+3)) G O7=R):=(by show _=_;rw[p.out,RU (by simp)]);go_wp2_with (go_at_call 84;refine R0 I.out ?_;rintro e w9 ⟨rfl,B⟩;rw[B];clear B);go_roundg (T.length-(q+3))
            case measure=>omega
            case rel=>exact⟨q+3,h7,O7,G,by omega,rfl,rfl,by go_num,⟨by omega,by omega,by omega⟩,E,bo⟩
           ·have E:Hid (R=(O7,G)):=(by show _=_;rw[p.out,RY rfl]);have A:O7.length+2000*aU G<=j.length+2000*aU m:=(by rw[K.out];omega);have l:aU G<=aU m:=(by rw[K.out];omega);go_wp2_with (go_at_call 84;refine R0 I.out ?_;rintro e w9 ⟨rfl,B⟩;rw[B];clear B);go_ret;exact ph bo.out E.out (by omega) A l rfl
          ·rw[RY rfl]at p;go_wp2_with (go_at_call 36;refine R0 ag.out ?_;rintro e w9 ⟨rfl,B⟩;rw[B];clear B);go_roundg (T.length-(q+3))
           case measure=>omega
           case rel=>exact⟨q+3,N,O,c,by omega,rfl,rfl,by go_num,⟨by rw[d.out];omega,by rw[d.out];exact z2,z3⟩,p.out.symm,C⟩
     ·cases bw
      ·have E:Hid (R=(O++[rr ⟨H,P,tf,tl,tc⟩ 7],c)):=by show _=_;rw[<-Z.out];exact by rw[zw hA,RU (by rw[M.out];simp)]
       have A:(O++[rr ⟨H,P,tf,tl,tc⟩ 7]).length+2000*aU c<=j.length+2000*aU m:=(by rw[d.out,K.out];simp;omega);have l:aU c<=aU m:=(by rw[d.out,K.out];omega);go_wp2_with (at_builtin;refine b9 _ rfl (.tmp 50) (.tmp 57) rfl N O (rr ⟨H,P,tf,tl,tc⟩ 7) rfl J.out.i.own (by omega) rfl ?_;intro h5 X y v;have HM:Hid _:=J.out.Wt v y;clear y v);go_ret;exact ph HM.out E.out (by omega) A l (by simp)
      ·have E:Hid (R=(O,c)):=(by show _=_;rw[<-Z.out,zw hA,RY M.out]);have A:O.length+2000*aU c<=j.length+2000*aU m:=(by rw[d.out,K.out];omega);have l:aU c<=aU m:=(by rw[d.out,K.out];omega);go_wp2;go_ret;exact ph J.out E.out (by omega) A l rfl
   ·have e:q=T.length:=(by omega);subst e;have E:Hid (R=(O,c)):=by show _=_;rw[<-Z.out,Vn,cN]
    have A:O.length+2000*aU c<=j.length+2000*aU m:=(by rw[d.out,K.out];omega);have l:aU c<=aU m:=(by rw[d.out,K.out];omega);go_wp2;go_ret;exact ph J.out E.out (by omega) A l rfl
theorem Mf:(prog.info? 4).map (fun i=>(i.zero,i.size,i.bytes))=some (some (bool false),1,1):=by kernel_rfl
theorem xi:madeCells (bool false).cells (x*1)=((List.replicate x false).map bool).toArray:=by
 rw[Nat.mul_one];apply Array.ext
 ·rw[TO];simp
 ·intro i a b;have e:(bool false).cells=#[bool false]:=rfl;simp[madeCells,e,Nat.mod_one]
def pI(fs:Fs)(k:Nat):List Tk:=(eD fs fs.length k (List.replicate fs.length false) []).1
def gB:Tk:=⟨⟨#[]⟩,0,⟨#[]⟩,0,0⟩
def cZ(fs:Fs)(k:Nat):List Tk×Tk:=if eO (pI fs k)=true then((pI fs k).dropLast,(pI fs k).getLast?.getD gB) else(pI fs k,gB)
theorem nD:aU (List.replicate x false)=x:=by
 unfold aU;rw[List.countP_replicate];simp
theorem lF.drop(h:lF i u y v):lF i u y v.dropLast:=by
 refine⟨by rw[Uc];have:=h.1;omega,fun k t a=>h.2 k t ?_⟩;rw[List.getElem?_dropLast]at a;split at a
 ·exact a
 ·cases a
theorem lF.keptS{S:List Nat}(h:lF i u y v)(k:aa S i s)(m:∀g,u=some ⟨g,0,none⟩->g∉S):lF s u y v:=by
 refine⟨h.1,fun j t n=>?_⟩;obtain⟨g,e,a,b,c,d,f,l⟩:=h.2 j t n;have q:∀o,s.cell? ⟨g,o,none⟩=i.cell? ⟨g,o,none⟩:=fun o=>Sh (k.block g a (m g e));exact⟨g,e,R6 a k.size,by rw[q];exact b,by rw[q];exact c,by rw[q];exact d,by rw[q];exact f,by rw[q];exact l⟩
theorem tx{j k l m:Value}(h:i.heap[y]?=some (.cells #[j,k,l,m] 87))(a b c d:Value) :
  (i.setCell ⟨y,0,none⟩ a).cell? ⟨y,0,none⟩=some a/\((i.setCell ⟨y,0,none⟩ a).setCell ⟨y,1,none⟩ b).cell? ⟨y,1,none⟩=some b/\(((i.setCell ⟨y,0,none⟩ a).setCell ⟨y,1,none⟩ b).setCell ⟨y,2,none⟩ c).cell? ⟨y,2,none⟩=some c/\((((i.setCell ⟨y,0,none⟩ a).setCell ⟨y,1,none⟩ b).setCell ⟨y,2,none⟩ c).setCell ⟨y,3,none⟩ d).cell? ⟨y,3,none⟩=some d:=by
 have e:=ah h 0 a;have f:=ah e 1 b;have g:=ah f 2 c;have n:=ah g 3 d;exact⟨by rw[aj e];rfl,by rw[aj f];rfl,by rw[aj g];rfl,by rw[aj n];rfl⟩
theorem IX(ap:f.length<=4)(an:∀D,(ak f D).size<=1024)(hk:D<f.length)(hO:nH S (some ⟨n,0,none⟩) l f)(hg:n<S.heap.size) :
  Calls prog 55 #[slice (some ⟨n,0,none⟩) f.length l,int i64 D] S fun e w'=>∃ao c,e=returned (tuple #[slice ao (cZ f D).1.length c,agg #[int i64 (cZ f D).2.rule,string (cZ f D).2.file,int i64 (cZ f D).2.line,int i64 (cZ f D).2.col]])/\lF w' ao c (cZ f D).1/\aa [] S w'/\∀g,ao=some ⟨g,0,none⟩->S.heap.size<=g/\g<w'.heap.size:=by
 obtain⟨i1,ar,az,aS,aT⟩:=Sr Mf;have m2:=fun S=>dH (P:=prog) S 134 4 i1 _ underlying134 ar az f.length 1 aS (by rw[aT];omega) (by omega);obtain⟨V,I⟩:∃V,Hid (madeCells (bool false).cells (f.length*1)=V):=⟨_,rfl⟩
 have af:Hid (V=((List.replicate f.length false).map bool).toArray):=by show _=_;rw[<-I.out,xi]
 rw[I.out]at m2;have a1:=hO.1;obtain⟨W,H⟩:∃W,Hid ((S.alloc (.cells #[int i64 0,string ⟨#[]⟩,int i64 0,int i64 0] 87)).alloc (.cells V 4)=W):=⟨_,rfl⟩
 have Q:aa [] S W:=by rw[<-H.out];exact((aa.refl [] _).alloc _).alloc _
 have SW:jN W (S.heap.size+1) (List.replicate f.length false):=by
  rw[<-H.out,af.out];have:=R2 (S.alloc (.cells #[int i64 0,string ⟨#[]⟩,int i64 0,int i64 0] 87)) (.cells ((List.replicate f.length false).map bool).toArray 4);simpa [jN] using this
 have O:W.heap[S.heap.size]?=some (.cells #[int i64 0,string ⟨#[]⟩,int i64 0,int i64 0] 87):=by
  rw[<-H.out];exact((aa.refl [] _).alloc _).get (R2 _ _) (by simp)
 have hI:vE W n l f (S.heap.size+1) (List.replicate f.length false) ⟨none,0⟩ []:=⟨Sb _ _ _ _,SW,hO.kept Q (by simp),(by intro e;cases e),(by intro e;cases e),by omega,R6 hg Q.size⟩;have B:Hid _:=(JU f n l ap an f.length D (List.replicate f.length false) [] ⟨none,0⟩ (S.heap.size+1) f.length W (by rw[nD];omega) (by simp) (by omega) hk (by rw[TJ];simp[hk]) (by rw[nD];simp;omega) hI);have b:Hid _:=Q;clear hI SW Q hO;go_enter func55,ntmps55;go_upto_region 2 with fail
 rw[H.out];obtain⟨R,G⟩:∃R,Hid (eD f f.length D (List.replicate f.length false) []=R):=⟨_,rfl⟩
 rw[G.out]at B;have u:Hid (pI f D=R.1):=by show _=_;unfold pI;rw[G.out]
 obtain⟨L,a0⟩:=R;have u:Hid (pI f D=L):=u.out;go_upto_region 3 with (go_at_call 83;refine R0 B.out ?_;rintro e x ⟨d,rfl,N,s7,X,l7,n7,u7⟩)
 have n7:L.length+2000*aU a0<=0+2000*aU (List.replicate f.length false):=n7;rw[nD]at n7;have N:aC x d (iV L):=N;have hL:L.length<=100000:=by omega
 have C:aa [S.heap.size+1] W x:=X.kept;have s:=C.get O (by simp);have z:Hid (∀g,d.ao=some ⟨g,0,none⟩->g∉[S.heap.size]):=fun g p U=>by
  have E:d.blk=some g:=by unfold Hd.blk;rw[p];rfl
  have e3:=ae O;simp at U;rcases X.blk with e | ⟨q,e,ax⟩
  ·rw[E]at e;cases e
  ·rw[E]at e;cases e;omega
 have m:Hid (∀g,d.ao=some ⟨g,0,none⟩->S.heap.size<=g/\g<x.heap.size):=fun g p=>by
  have E:d.blk=some g:=by unfold Hd.blk;rw[p];rfl
  have e3:=ae O;have e4:=N.lt E;rcases X.blk with e | ⟨q,e,ax⟩
  ·rw[E]at e;cases e
  ·rw[E]at e;cases e;omega
 have A:Hid (aa [] S x):=⟨C.os.trans b.out.os,C.tape.trans b.out.tape,C.output.trans b.out.output,Sc b.out.size C.size,fun q U _=>by rw[C.block q (R6 U b.out.size) (by simp;omega),b.out.block q U (by simp)]⟩;obtain⟨bk,k⟩:∃bk,Hid (eO L=bk):=⟨_,rfl⟩
 have i:Hid _:=vh L d.ao d.cap x hL N.src;rw[k.out]at i;have f0:=am s 0;have f1:=am s 1;have f2:=am s 2;have f3:=am s 3;obtain⟨g0,g1,g2,g3⟩:=BK s;have y7:=ae s;have j:Hid _:=N.src;clear B O H m2 X s7 l7 u7 b C;cases bk
 ·have F:Hid (cZ f D=(L,gB)):=by show _=_;unfold cZ;rw[u.out,k.out,RU (by simp)]
  go_wp2_with (go_at_call 84;refine R0 i.out ?_;rintro e w9 ⟨rfl,r⟩;rw[r];clear r);obtain⟨x0,x1,x2,x3⟩:=tx s (int i64 0) (string ⟨#[]⟩) (int i64 0) (int i64 0);have J:aa [S.heap.size] x ((((x.setCell ⟨S.heap.size,0,none⟩ (int i64 0)).setCell ⟨S.heap.size,1,none⟩ (string ⟨#[]⟩)).setCell ⟨S.heap.size,2,none⟩ (int i64 0)).setCell ⟨S.heap.size,3,none⟩ (int i64 0)):=((((aa.refl _ _).setCell (R4 (by simp)) _).setCell (R4 (by simp)) _).setCell (R4 (by simp)) _).setCell (R4 (by simp)) _;exact Sa (v:=tuple #[slice d.ao L.length d.cap,agg #[int i64 0,string ⟨#[]⟩,int i64 0,int i64 0]]) (by simp[results,results55,go_sem,x0,x1,x2,x3]) rfl ⟨d.ao,d.cap,by rw[F.out];rfl,by rw[F.out];exact lF.keptS j.out J z.out,(((A.out.setCell (RZ (by simp)) _).setCell (RZ (by simp)) _).setCell (RZ (by simp)) _).setCell (RZ (by simp)) _,fun g p=>⟨(m.out g p).1,R6 (m.out g p).2 J.size⟩⟩
 ·have hn:0<L.length:=by
   cases al:L with
   | nil=>rw[al]at k;cases k.out
   | cons _ _=>simp
  obtain⟨a,o⟩:∃a,Hid (L.length=a):=⟨_,rfl⟩
  have K:a-1<L.length:=by rw[<-o.out];omega
  rw[o.out]at hn hL i ⊢;obtain⟨gs,p,a3,c0,c1,c2,c3,c4⟩:=j.out.2 (a-1) L[a-1] (RQ K);have F:Hid (cZ f D=(L.dropLast,L[a-1])):=by
   show _=_;unfold cZ;rw[u.out,k.out,RY rfl,Up,o.out,RQ K];rfl
  have ac:Hid (L.dropLast.length=a-1):=by show _=_;rw[Uc,o.out]
  have a2:a<=d.cap:=by have:=j.out.1;rw[o.out]at this;exact this
  generalize L[a-1]=t at *;obtain⟨ts,tr,Z,tl,Y⟩:=t;simp only at c0 c1 c2 c3 c4;have a5:IntKind.i64.wrap ((a:Int)-1)=(a:Int)-1:=by rw[TE];omega
  have a4:((a:Int)-1).toNat=a-1:=by omega
  have b1:(0:Int)<=(a:Int)-1:=by omega
  have b2:(a:Int)-1<(a:Int):=by omega
  have b3:(1:Int)<=(a:Int):=by omega
  have b4:(a:Int)-1<=(d.cap:Int):=by omega
  have b5:(0:Int)<(a:Int):=by omega
  rw[p]at i j z m ⊢;obtain⟨T,w⟩:∃T,Hid (x.alloc (.cells #[string ts,int i64 tr,string Z,int i64 tl,int i64 Y] 138)=T):=⟨_,rfl⟩
  go_upto_region 7 with (go_at_call 84;refine R0 i.out ?_;rintro e w9 ⟨rfl,r⟩;rw[r];clear r)
  rw[w.out];have M:=fN w.out;have BX:=fY w.out;have y:=M.get s (by simp);have ag:Hid _:=lF.drop (lF.Wj j.out M);have ad:Hid _:=A.out.trans M;have ai:Hid _:=M.size;clear c0 c1 c2 c3 c4 f0 f1 f2 f3 g0 g1 g2 g3 i w s M A j;obtain⟨-,p1,p2,p3,p4⟩:=nR BX;have f0:=am y 0;have f1:=am y 1;have f2:=am y 2;have f3:=am y 3;obtain⟨g0,g1,g2,g3⟩:=BK y;have y8:=ae BX;have y9:=ae y;go_region;go_wp2;obtain⟨x0,x1,x2,x3⟩:=tx y (int i64 tr) (string Z) (int i64 tl) (int i64 Y);have J:aa [S.heap.size] T ((((T.setCell ⟨S.heap.size,0,none⟩ (int i64 tr)).setCell ⟨S.heap.size,1,none⟩ (string Z)).setCell ⟨S.heap.size,2,none⟩ (int i64 tl)).setCell ⟨S.heap.size,3,none⟩ (int i64 Y)).drew:=(((((aa.refl _ _).setCell (R4 (by simp)) _).setCell (R4 (by simp)) _).setCell (R4 (by simp)) _).setCell (R4 (by simp)) _).drew;exact Sa (v:=tuple #[slice (some ⟨gs,0,none⟩) (a-1) d.cap,agg #[int i64 tr,string Z,int i64 tl,int i64 Y]]) (by simp[results,results55,go_sem,x0,x1,x2,x3]) rfl ⟨some ⟨gs,0,none⟩,d.cap,by rw[F.out,ac.out],by rw[F.out];exact lF.keptS ag.out J z.out,((((ad.out.setCell (RZ (by simp)) _).setCell (RZ (by simp)) _).setCell (RZ (by simp)) _).setCell (RZ (by simp)) _).drew,fun g p=>⟨(m.out g p).1,R6 (m.out g p).2 (Sc ai.out J.size)⟩⟩
structure Sm where
 a:Nat
 z:Nat
 h:Nat
 k:ByteArray
def Bz(w:World)(ao:Option Addr)(cap:Nat)(S:List Sm):Prop:=S.length<=cap/\∀k s,S[k]?=some s->∃g,ao=some ⟨g,0,none⟩/\g<w.heap.size /\
  w.cell? ⟨g,k*4,none⟩=some (int i64 s.a)/\w.cell? ⟨g,k*4+1,none⟩=some (int i64 s.z)/\w.cell? ⟨g,k*4+2,none⟩=some (int i64 s.h)/\w.cell? ⟨g,k*4+3,none⟩=some (string s.k)
theorem Bz.Wj{S:List Sm}(h:Bz i u y S)(k:aa [] i s):Bz s u y S:=by
 refine⟨h.1,fun j t l=>?_⟩;obtain⟨g,e,a,b,c,d,f⟩:=h.2 j t l;have q:∀o,s.cell? ⟨g,o,none⟩=i.cell? ⟨g,o,none⟩:=fun o=>Sh (k.block g a (by simp));exact⟨g,e,R6 a k.size,by rw[q];exact b,by rw[q];exact c,by rw[q];exact d,by rw[q];exact f⟩
structure fZ(w:World)(b:Nat)(T:List Tk)(aoT:Option Addr)(cT:Nat)(S:List Sm)(aoS:Option Addr)(cS:Nat):Prop where
 d:w.heap[b]?=some (.cells #[slice aoT T.length cT,slice aoS S.length cS] 141)
 t:lF w aoT cT T
 s:Bz w aoS cS S
theorem fZ.Wj{S:List Sm}(h:fZ i y v u z0 S zb z4)(k:aa [] i s):fZ s y v u z0 S zb z4 :=
 ⟨k.get h.d (by simp),h.t.Wj k,h.s.Wj k⟩
theorem fZ.cells{S:List Sm}(h:fZ i y v u z0 S zb z4):i.cell? ⟨y,0,none⟩=some (slice u v.length z0)/\i.cell? ⟨y,1,none⟩=some (slice zb S.length z4)/\y<i.heap.size :=
 ⟨by rw[aj h.d];rfl,by rw[aj h.d];rfl,ae h.d⟩
def ay(k:ByteArray):Bool:=(k.toList == [36,97])||(k.toList == [36,112])
def aF(k:ByteArray):Bool:=(k.toList == [36,102])||(k.toList == [36,101])
set_option maxRecDepth 512
theorem gG :
  Calls prog 123 #[string d] S fun e a=>e=returned (bool (ay d))/\a=S:=by
 go_enter func123,ntmps123;go_wp2
 all_goals go_ret
 all_goals (refine⟨?_,rfl⟩;simp[ay, *])
theorem l5 :
  Calls prog 124 #[string d] S fun e a=>e=returned (bool (aF d))/\a=S:=by
 go_enter func124,ntmps124;go_wp2
 all_goals go_ret
 all_goals (refine⟨?_,rfl⟩;simp[aF, *])
def jB(w:World)(ao:Option Addr)(L:List ByteArray):Prop:=∀k x,L[k]?=some x->∃g,ao=some ⟨g,0,none⟩/\g<w.heap.size/\w.cell? ⟨g,k,none⟩=some (string x)
theorem aC.srcX(o:aC i z5 (aG zt)):jB i z5.ao zt:=by
 intro k x c;rcases o.Wu with ⟨_,b,_⟩ | ⟨g,d,a,e,f,-⟩
 ·have b:zt.length=0:=b;have:=(R8.1 c).1;omega
 ·exact⟨g,a,ae e,o.cell a k (string x) (by simp[aG,eS,c])⟩
theorem Of(a:x<k.length)(h:(k[x].toList==d.toList)=true):aJ k d=true:=by
 unfold aJ;exact SQ.2 ⟨k[x],Sj a,h⟩
theorem Og(h:∀a (b:a<k.length),(k[a].toList==d.toList)=false):aJ k d=false:=by
 unfold aJ;rw[UV];intro y c;obtain⟨a,b,e⟩:=Tg c;have:=h a b;rw[e]at this;rw[this];simp
theorem kC(m:jB S I k)(w:k.length<=1000000000) :
  Calls prog 94 #[slice I k.length D,string d] S fun e t=>e=returned (bool (aJ k d))/\t=S:=by
 have o:Hid _:=m;clear m;go_enter func94,ntmps94;go_wp2
 go_loopg [5] k.length (fun g i wr=>∃a:Nat,a<=k.length/\g=k.length-a/\i=int i64 a/\Hid (∀j (b:j<k.length),j<a->(k[j].toList==d.toList)=false)/\wr=S)
 case atStart=>exact⟨0,by omega,by omega,rfl,(fun j _ h=>by omega),rfl⟩
 case round =>
  obtain⟨a,z,x,rfl,l,rfl⟩:=hrel;by_cases f:a<k.length
  ·obtain⟨u,rfl,r,A⟩:=o.out a k[a] (RQ f);have s:(a:Int)<k.length:=(by omega);have q:Hid ((k[a].toList==d.toList)=true->aJ k d=true):=Of k d a f;have p:Hid ((k[a].toList==d.toList)=false->∀j (b:j<k.length),j<a+1->(k[j].toList==d.toList)=false):=fun h j b v=>by
    by_cases e:j=a
    ·subst e;exact h
    ·exact l.out j b (by omega)
   generalize k[a]=y at *;cases n:(y.toList==d.toList)
   ·have c:Hid (∀j (b:j<k.length),j<a+1->(k[j].toList==d.toList)=false):=p.out n;go_wp2;go_roundg (k.length-(a+1))
    case measure=>omega
    case rel=>exact⟨a+1,by omega,rfl,by go_num,c,rfl⟩
   ·have c:Hid (aJ k d=true):=q.out n;go_wp2;go_ret;exact⟨aE c.out.symm,rfl⟩
  ·have c:Hid (aJ k d=false):=Og k d (fun j b=>l.out j b (by omega));go_wp2;go_ret;exact⟨aE c.out.symm,rfl⟩
def tS(T:List Tk)(i:Nat):ByteArray:=(T.getD i gB).s
theorem iK(h:x<H.length):H[x]?=some (H.getD x gB):=by
 rw[RT,RQ h];rfl
def dQ(T:List Tk)(b:Nat):ByteArray×Nat:=if(gW (tS T b) ⟨#[36]⟩||decide (T.length<=b+1))=true then(tS T b,b+1) else(tS T (b+1),b+2)
set_option maxRecDepth 100000
theorem GP(S:List Sm)(k:Option Addr)(C:Nat)(w:World)(p:fZ w n H I x S k C)(K:l<H.length)(G:H.length<=100000)(L:∀i,(tS H i).size<=1073741824) :
  Calls prog 86 #[pointer (some ⟨n,0,none⟩),int i64 l] w fun e M=>e=returned (tuple #[string (dQ H l).1,int i64 ((dQ H l).2:Nat)])/\M=w:=by
 obtain⟨B,-,O⟩:=p.cells;obtain⟨v,rfl,J,u,-⟩:=p.t.2 l _ (iK H l K);replace u:w.cell? ⟨v,l*5,none⟩=some (string (tS H l)):=u;have r:(l:Int)<H.length:=by omega
 have s:=L l;have f:((l+1:Nat):Int)=(l:Int)+1:=by omega
 have q:((l+2:Nat):Int)=(l:Int)+2:=by omega
 obtain⟨b,j⟩:∃b,Hid (tS H l=b):=⟨_,rfl⟩
 rw[j.out]at u s;obtain⟨c,g⟩:∃c,Hid (H.length=c):=⟨_,rfl⟩
 rw[g.out]at B r G;cases m:gW b ⟨#[36]⟩
 ·by_cases N:c<=l+1
  ·have d:Hid (dQ H l=(b,l+1)):=(by show _=_;unfold dQ;rw[j.out,m,g.out,RY (by simp;omega)]);have o:(c:Int)<=(l:Int)+1:=(by omega);go_enter func86,ntmps86;go_wp2_with (go_at_call 121;refine(fS b _ _ (by omega) (by show 1<=_;omega)).mono ?_;rintro e A ⟨rfl,a⟩;rw[a];clear a);go_ret2;exact⟨by rw[d.out];show _=Ending.returned (tuple #[string b,int i64 ((l+1:Nat):Int)]);rw[f];rfl,rfl⟩
  ·have d:Hid (dQ H l=(tS H (l+1),l+2)):=(by show _=_;unfold dQ;rw[j.out,m,g.out,RU (by simp;omega)]);have o:¬(c:Int)<=(l:Int)+1:=(by omega);have F:(l:Int)+1<(c:Int):=(by omega);obtain⟨E,D,-,z,-⟩:=p.t.2 (l+1) _ (iK H (l+1) (by rw[g.out];omega));cases D
   replace z:w.cell? ⟨v,(l+1)*5,none⟩=some (string (tS H (l+1))):=z;generalize tS H (l+1)=y at *;go_enter func86,ntmps86;go_wp2_with (go_at_call 121;refine(fS b _ _ (by omega) (by show 1<=_;omega)).mono ?_;rintro e A ⟨rfl,a⟩;rw[a];clear a);go_ret2;exact⟨by rw[d.out];show _=Ending.returned (tuple #[string y,int i64 ((l+2:Nat):Int)]);rw[q];rfl,rfl⟩
 ·have d:Hid (dQ H l=(b,l+1)):=by show _=_;unfold dQ;rw[j.out,m,RY (by simp)]
  go_enter func86,ntmps86;go_wp2_with (go_at_call 121;refine(fS b _ _ (by omega) (by show 1<=_;omega)).mono ?_;rintro e A ⟨rfl,a⟩;rw[a];clear a);go_ret2;exact⟨by rw[d.out];show _=Ending.returned (tuple #[string b,int i64 ((l+1:Nat):Int)]);rw[f];rfl,rfl⟩
def qW:Int->List Sm->Bool
 | _,[]=>true
 | o,s :: r=>if aP o s.k<0 then false else qW (aP o s.k) r
def aM(S:List Sm)(j n:Nat):Bool:=qW 0 ((S.drop j).take (n-j))
def bm(S:List Sm)(n:Nat):Int:=(S.take n).foldl (fun o s=>aP o s.k) 0
theorem vl(S:List Sm)(k:Nat)(h:k<S.length):bm S (k+1)=aP (bm S k) S[k].k:=by
 unfold bm;rw[Ta h,Uj];rfl
theorem DE(c:(N.toList == [36,123])=true)(a:(N.toList == [36,125])=true):False:=by
 have b:N.toList=[36,123]:=by simpa using c
 rw[b]at a;exact absurd a (by decide)
theorem En(S:List Sm)(j:Option Addr)(y:Nat)(w:World)(p:fZ w n H I x S j y)(N:l<=S.length)(G:S.length<=100000) :
  Calls prog 169 #[pointer (some ⟨n,0,none⟩),int i64 l] w fun e D=>e=returned (int i64 (bm S l))/\D=w:=by
 obtain⟨-,E,J⟩:=p.cells;have v:Hid _:=p.s.2;clear p;go_enter func169,ntmps169;go_wp2
 go_loopg [5,6] l (fun g o i wr=>∃(k:Nat) (m:Int),k<=l/\g=l-k/\o=int i64 m/\i=int i64 k/\(-(k:Int)<=m/\m<=(k:Int))/\Hid (m=bm S k)/\wr=w)
 case atStart=>exact⟨0,0,by omega,rfl,rfl,rfl,by omega,rfl,rfl⟩
 case round =>
  obtain⟨k,m,L,K,rfl,rfl,M,r,rfl⟩:=hrel;by_cases B:k<l
  ·have d:k<S.length:=(by omega);obtain⟨F,rfl,z,-,-,-,C⟩:=v.out k S[k] (RQ d);have b:Hid _:=vl S k d;have A:(k:Int)<(l:Int):=(by omega);have u:(k:Int)<S.length:=(by omega);rw[<-r.out]at b;generalize S[k]=t at *;obtain⟨O,Q,P,q⟩:=t;simp only at C b;cases f:(q.toList == [36,123])
   ·cases c:(q.toList == [36,125])
    ·have a:Hid (m=bm S (k+1)):=(by show _=_;rw[b.out,aP,f,c];simp);go_wp2;go_roundg (l-(k+1))
     case measure=>omega
     case rel=>exact⟨k+1,m,by omega,rfl,rfl,by go_num,by omega,a,rfl⟩
    ·have a:Hid (m-1=bm S (k+1)):=(by show _=_;rw[b.out,aP,f,c];simp);go_wp2;go_roundg (l-(k+1))
     case measure=>omega
     case rel=>exact⟨k+1,m-1,by omega,rfl,by go_num,by go_num,by omega,a,rfl⟩
   ·cases c:(q.toList == [36,125])
    ·have a:Hid (m+1=bm S (k+1)):=(by show _=_;rw[b.out,aP,f,c];simp);go_wp2;go_roundg (l-(k+1))
     case measure=>omega
     case rel=>exact⟨k+1,m+1,by omega,rfl,by go_num,by go_num,by omega,a,rfl⟩
    ·exact(DE f c).elim
  ·have e:k=l:=(by omega);subst e;go_wp2;go_ret;exact⟨au r.out,rfl⟩
theorem Lh(S:List Sm)(k n:Nat)(h:k<n)(a:n<=S.length):(S.drop k).take (n-k)=S[k]'(by omega) :: (S.drop (k+1)).take (n-(k+1)):=by
 rw[Sq (by omega),show n-k=(n-(k+1))+1 by omega,VB]
theorem lG(S:List Sm)(p:Option Addr)(C:Nat)(w:World)(q:fZ w L H I x S p C)(R:n<=l)(G:l<=S.length)(O:S.length<=100000) :
  Calls prog 93 #[pointer (some ⟨L,0,none⟩),int i64 n,int i64 l] w fun e K=>e=returned (bool (aM S n l))/\K=w:=by
 obtain⟨-,M,P⟩:=q.cells;have B:Hid _:=q.s.2;clear q;go_enter func93,ntmps93;go_wp2
 go_loopg [7,8] (l-n) (fun g o i wr=>∃(k:Nat) (m:Int),(n<=k/\k<=l)/\g=l-k/\o=int i64 m/\i=int i64 k/\(0<=m/\m<=(k:Int))/\Hid (aM S n l=qW m ((S.drop k).take (l-k)))/\wr=w)
 case atStart=>exact⟨n,0,⟨by omega,by omega⟩,rfl,rfl,rfl,by omega,rfl,rfl⟩
 case round =>
  obtain⟨k,m,⟨E,T⟩,Q,rfl,rfl,U,b,rfl⟩:=hrel;by_cases u:k<l
  ·have r:k<S.length:=(by omega);obtain⟨N,rfl,D,-,-,-,J⟩:=B.out k S[k] (RQ r);have A:Hid _:=Lh S k l u G;rw[A.out,qW]at b;have F:(k:Int)<(l:Int):=(by omega);have y:(k:Int)<S.length:=(by omega);generalize S[k]=t at *;obtain⟨V,X,W,c⟩:=t;simp only at J b;cases j:(c.toList == [36,123])
   ·cases d:(c.toList == [36,125])
    ·have a:Hid (aM S n l=qW m ((S.drop (k+1)).take (l-(k+1)))):=by
      have f:aP m c=m:=(by unfold aP;rw[j,d];simp);have:=b.out;rw[f,RU (by omega)]at this;exact this
     have v:¬m<0:=(by omega);go_wp2;go_roundg (l-(k+1))
     case measure=>omega
     case rel=>exact⟨k+1,m,⟨by omega,by omega⟩,rfl,rfl,by go_num,by omega,a,rfl⟩
    ·have f:aP m c=m-1:=(by unfold aP;rw[j,d];simp);rw[f]at b;by_cases z:m-1<0
     ·have a:Hid (aM S n l=false):=by
       have:=b.out;rw[RY z]at this;exact this
      go_wp2;go_ret;exact⟨aE a.out.symm,rfl⟩
     ·have a:Hid (aM S n l=qW (m-1) ((S.drop (k+1)).take (l-(k+1)))):=by
       have:=b.out;rw[RU z]at this;exact this
      go_wp2;go_roundg (l-(k+1))
      case measure=>omega
      case rel=>exact⟨k+1,m-1,⟨by omega,by omega⟩,rfl,by go_num,by go_num,by omega,a,rfl⟩
   ·cases d:(c.toList == [36,125])
    ·have a:Hid (aM S n l=qW (m+1) ((S.drop (k+1)).take (l-(k+1)))):=by
      have f:aP m c=m+1:=(by unfold aP;rw[j,d];simp);have:=b.out;rw[f,RU (by omega)]at this;exact this
     have v:¬m+1<0:=(by omega);go_wp2;go_roundg (l-(k+1))
     case measure=>omega
     case rel=>exact⟨k+1,m+1,⟨by omega,by omega⟩,rfl,by go_num,by go_num,by omega,a,rfl⟩
    ·exact(DE j d).elim
  ·have e:k=l:=(by omega);subst e;have a:Hid (aM S n k=true):=by show _=_;rw[b.out,Td,UH,qW]
   go_wp2;go_ret;exact⟨aE a.out.symm,rfl⟩
def nB(s:ByteArray):Bool:=(s.toList == [36,61])||(s.toList == [36,46])
def ly:List Tk->List ByteArray
 | []=>[]
 | t :: r=>if nB t.s=true then [] else t.s :: ly r
def bq(T:List Tk)(h:Nat):List ByteArray:=ly (T.drop h)
def dG(T:List Tk)(h:Nat):Prop:=∃e,h<=e/\e<T.length/\nB (tS T e)=true
theorem GB(h:x<H.length):H.drop x=H.getD x gB :: H.drop (x+1):=by
 rw[Sq h,RT,RQ h];rfl
theorem IF(L:List Tk):(ly L).length<=L.length:=by
 induction L with
 | nil=>exact RV _
 | cons t r a=>rw[ly];split <;> simp <;> omega
theorem lI:(bq H x).length<=H.length:=by
 have:=IF (H.drop x);rw[Tc]at this;unfold bq;omega
structure yP(w wr:World)(h:Hd)(O:List ByteArray):Prop where
 own:aC wr h (aG O)
 far:∀k,h.blk=some k->w.heap.size<=k
 kept:aa [] w wr
theorem yP.nil:yP S S ⟨none,0⟩ []:=⟨Sb _ _ _ _,(by intro k a;cases a),aa.refl _ _⟩
theorem yP.Wt{b:World}{f:List ByteArray}(a:yP i s z5 zt)(g:bI s b z5 z6)(o:aC b z6 (aG f)):yP i b z6 f:=by
 refine⟨o,fun k c=>?_,⟨g.kept.os.trans a.kept.os,g.kept.tape.trans a.kept.tape,g.kept.output.trans a.kept.output,Sc a.kept.size g.kept.size,fun k c _=>?_⟩⟩
 ·rcases g.blk with e | ⟨q,e,d⟩
  ·exact a.far k (by rw[<-e];exact c)
  ·rw[e]at c;cases c;exact Sc a.kept.size d
 ·rw[g.kept.block k (R6 c a.kept.size) (fun d=>by have:=a.far _ (aQ d);omega),a.kept.block k c (by simp)]
theorem pG{g:Array Oper}{b:List Oper}{o:Oper}{a:Act}{Q:Exit->Act->World->Prop}(y:o.guard=none)(s x:Operand)(l:o.op=Op.call { callee:=Callee.builtin Builtin.append,args:=#[s,x],argTypes:=#[61,61] })(h:Hd)(L:List ByteArray)(t:ByteArray)(C:a.eval s=slice h.ao L.length h.cap)(e:aC S h (aG L))(H:L.length<=1000000)(E:a.eval x=slice (some ⟨S.heap.size,0,none⟩) 1 1)(w:∀i q,aC q i (aG (L++[t]))->bI S q h i->wpList prog g Q b (a.put o.dst (slice i.ao (L.length+1) i.cap)) q) :
  wpList prog g Q (o :: b) a (S.alloc (.cells #[string t] 9)):=by
 obtain⟨F,z,m,n,p⟩:=Sr lA;have r:aa [] S (S.alloc (.cells #[string t] 9)):=(aa.refl [] _).alloc _;have B:(S.alloc (.cells #[string t] 9)).heap[S.heap.size]?=some (.cells #[string t] 9):=R2 _ _;refine aO _ y s x 61 l F (string ⟨#[]⟩) 16 h (aG L) underlying61 z m n p rfl So C (e.Wj r) ⟨S.heap.size,0,none⟩ 1 1 [string t] E rfl ?_ ?_ So (by simp only[aG];unfold maxLen;omega) (by simp only[aG];omega) ?_
 ·intro j u A;rw[bS,aj B];simpa using A
 ·intro u D;rw[Se.1 D];rfl
 ·intro v c G f d k;rw[fj]at f;exact w ⟨some ⟨v,0,none⟩,c⟩ G f ((bI.Wj r).trans (bI.made d k))
theorem l6(S:List Sm)(z:Option Addr)(N:Nat)(w:World)(q:fZ w n H I x S z N)(hj:l<S.length)(hT:H.length<=100000)(W:dG H S[l].h) :
  Calls prog 73 #[pointer (some ⟨n,0,none⟩),int i64 l] w fun e w'=>∃a,e=returned (slice a.ao (bq H S[l].h).length a.cap)/\yP w w' a (bq H S[l].h):=by
 obtain⟨gS,rfl,Y,-,-,q2,-⟩:=q.s.2 l S[l] (RQ hj);generalize S[l].h=b at *;obtain⟨e,e1,P,Q⟩:=W;obtain⟨T,rfl,Z,-⟩:=q.t.2 e _ (iK H e P);have G:Hid _:=q;obtain⟨E,M,hb⟩:=q.cells;have ad:(l:Int)<S.length:=by omega
 have K:Hid _:=yP.nil w;clear q;go_enter func73,ntmps73;go_wp2;clear E M q2
 go_loopg [5,6] (H.length-b) (fun g o i wr=>∃(k:Nat) (a:Hd) (O:List ByteArray),(b<=k/\k<=e)/\g=H.length-k/\o=slice a.ao O.length a.cap/\i=int i64 k/\O.length<=k/\Hid (O++ly (H.drop k)=bq H b)/\Hid (yP w wr a O))
 case atStart=>exact⟨b,⟨none,0⟩,[],⟨by omega,by omega⟩,rfl,rfl,rfl,SE _,rfl,K⟩
 case round =>
  obtain⟨k,a,O,⟨af,ag⟩,hg,rfl,rfl,hO,c,p⟩:=hrel;have u:k<H.length:=by omega
  have j:Hid _:=fZ.Wj G.out p.out.kept;obtain⟨E,-,X⟩:=j.out.cells;obtain⟨U,R,ac,D,-⟩:=j.out.t.2 k _ (iK H k u);cases R
  replace D:wr.cell? ⟨T,k*5,none⟩=some (string (tS H k)):=D;have al:(k:Int)<H.length:=by omega
  have J:Hid _:=GB H k u;rw[J.out,ly]at c;have c:Hid (O++(if nB (tS H k)=true then [] else tS H k :: ly (H.drop (k+1)))=bq H b):=c.out;have m:Hid (k=e->nB (tS H k)=true):=fun h=>by rw[h];exact Q
  obtain⟨f,L⟩:∃f,Hid (tS H k=f):=⟨_,rfl⟩
  rw[L.out]at D c m;have C:=p.out.own;obtain⟨F,Hn⟩:∃F,Hid (H.length=F):=⟨_,rfl⟩
  cases A:(f.toList == [36,61])
  ·cases B:(f.toList == [36,46])
   ·have ai:k<e:=by
     have:¬k=e:=fun h=>by have:=m.out h;unfold nB at this;rw[A,B]at this;cases this
     omega
    have d:Hid ((O++[f])++ly (H.drop (k+1))=bq H b):=by
     have:=c.out;rw[RU (by unfold nB;rw[A,B];simp)]at this;show _=_;rw[<-this];simp
    go_wp2_with (at_builtin;refine pG _ rfl (.tmp 37) (.tmp 46) rfl a O f rfl C (by omega) rfl ?_;intro V w5 v r;have y:Hid _:=p.out.Wt r v;clear v r);go_roundg (H.length-(k+1))
    case measure=>omega
    case rel=>exact⟨k+1,V,O++[f],⟨by omega,by omega⟩,rfl,by simp,by go_num,by simp;omega,d,y⟩
   ·have d:Hid (bq H b=O):=by
     have:=c.out;rw[RY (by unfold nB;rw[B];simp)]at this;show _=_;rw[<-this];simp
    go_wp2;go_ret;exact⟨a,by rw[d.out];rfl,by rw[d.out];exact p.out⟩
  ·have d:Hid (bq H b=O):=by
    have:=c.out;rw[RY (by unfold nB;rw[A];simp)]at this;show _=_;rw[<-this];simp
   go_wp2;go_ret;exact⟨a,by rw[d.out];rfl,by rw[d.out];exact p.out⟩
def bN(T:List Tk)(s:Sm):ByteArray:=if(ay s.k||aF s.k)=true then tS T s.a else⟨#[]⟩
theorem qI(S:List Sm)(o:Option Addr)(z:Nat)(w:World)(i:fZ w n H I x S o z)(E:l<S.length)(u:S[l].a<H.length) :
  Calls prog 88 #[pointer (some ⟨n,0,none⟩),int i64 l] w fun e K=>e=returned (string (bN H S[l]))/\aa [] w K:=by
 obtain⟨N,rfl,C,G,-,-,J⟩:=i.s.2 l S[l] (RQ E);obtain⟨A,rfl,D,j,-⟩:=i.t.2 S[l].a _ (iK H _ u);have f:Hid (bN H S[l]=if(ay S[l].k||aF S[l].k)=true then tS H S[l].a else⟨#[]⟩):=rfl;replace j:w.cell? ⟨A,S[l].a*5,none⟩=some (string (tS H S[l].a)):=j;generalize bN H S[l]=R at *;generalize S[l]=s at *;obtain⟨q,Q,P,c⟩:=s;simp only at G J j f u;obtain⟨m,y⟩:∃m,Hid (tS H q=m):=⟨_,rfl⟩
 rw[y.out]at j f;obtain⟨L,M,O⟩:=i.cells;have F:(l:Int)<S.length:=by omega
 have B:(q:Int)<H.length:=by omega
 have v:(0:Int)<=(q:Int):=by omega
 clear i;cases p:ay c
 ·cases r:aF c
  ·have d:Hid (R=⟨#[]⟩):=(by show _=_;rw[f.out,p,r];rfl);go_enter func88,ntmps88;go_wp2_with (first | (go_at_call 123;refine(gG c _).mono ?_;rintro e g ⟨rfl,b⟩;rw[b];clear b) | (go_at_call 124;refine(l5 c _).mono ?_;rintro e g ⟨rfl,b⟩;rw[b];clear b));go_ret;exact⟨by rw[d.out];rfl,aa.refl _ _⟩
  ·have d:Hid (R=m):=(by show _=_;rw[f.out,p,r];rfl);go_enter func88,ntmps88;(go_upto_region 4 with (first | (go_at_call 123;refine(gG c _).mono ?_;rintro e g ⟨rfl,b⟩;rw[b];clear b) | (go_at_call 124;refine(l5 c _).mono ?_;rintro e g ⟨rfl,b⟩;rw[b];clear b)));go_region
   all_goals
    go_wp2;go_ret;exact⟨by rw[d.out];rfl,(aa.refl [] w).drew⟩
 ·have d:Hid (R=m):=by show _=_;rw[f.out,p];rfl
  go_enter func88,ntmps88;go_upto_region 4 with (first | (go_at_call 123;refine(gG c _).mono ?_;rintro e g ⟨rfl,b⟩;rw[b];clear b) | (go_at_call 124;refine(l5 c _).mono ?_;rintro e g ⟨rfl,b⟩;rw[b];clear b))
  go_region
  all_goals
   go_wp2;go_ret;exact⟨by rw[d.out];rfl,(aa.refl [] w).drew⟩
def Ry:Sm:=⟨0,0,0,⟨#[]⟩⟩
def aq(S:List Sm)(j:Nat):Sm:=S.getD j Ry
theorem bQ(S:List Sm)(j:Nat)(h:j<S.length):S[j]'h=aq S j:=by
 unfold aq;rw[RT,RQ h];rfl
def oi(T:List Tk)(S:List Sm)(key x:ByteArray)(n:Nat)(act:Bool)(j:Nat):Bool:=((aq S j).k.toList==key.toList)&&(aJ (bq T (aq S j).h) x&&(aM S j n || !act))
def jm(T:List Tk)(S:List Sm)(key x:ByteArray)(n:Nat)(act:Bool):Bool:=(List.range n).any (oi T S key x n act)
theorem eG{p:Nat->Bool}(h:∀j,j<y->p j=false)(a:p y=false):∀j,j<y+1->p j=false:=fun j b=>by
 by_cases e:j=y
 ·rw[e];exact a
 ·exact h j (by omega)
theorem oQ(b:Bool)(T:List Tk)(t:Option Addr)(P:Nat)(S:List Sm)(N:Option Addr)(O:Nat)(w:World)(W:fZ w L T t P S N O)(hn:n<=S.length)(hS:S.length<=100000)(hT:T.length<=100000)(hE:∀j,j<n->((aq S j).k.toList==o.toList)=true->dG T (aq S j).h) :
  Calls prog 213 #[pointer (some ⟨L,0,none⟩),string o,string d,int i64 n,bool b] w fun e D=>e=returned (bool (jm T S o d n b))/\aa [] w D:=by
 have I:Hid _:=W;clear W;go_enter func213,ntmps213;go_wp2
 go_loopg [11] n (fun g i wr=>∃k:Nat,k<=n/\g=n-k/\i=int i64 k/\Hid (∀j,j<k->oi T S o d n b j=false)/\Hid (aa [] w wr))
 case atStart=>exact⟨0,by omega,rfl,rfl,(fun j hj=>by omega),aa.refl _ _⟩
 case round =>
  obtain⟨k,hk,hg,rfl,E,C⟩:=hrel;by_cases u:k<n
  ·have p:k<S.length:=(by omega);have z:Hid _:=fZ.Wj I.out C.out;obtain⟨-,c1,hb⟩:=z.out.cells;obtain⟨gs,rfl,af,-,-,-,q3⟩:=z.out.s.2 k S[k] (RQ p);have ag:(k:Int)<(n:Int):=(by omega);have X:(k:Int)<S.length:=(by omega);have r:Hid (oi T S o d n b k=((S[k].k.toList==o.toList)&&(aJ (bq T S[k].h) d&&(aM S k n || !b)))):=(by show _=_;unfold oi;rw[bQ S k p]);have A:Hid ((S[k].k.toList==o.toList)=true->dG T S[k].h):=(by have:=hE k u;rw[<-bQ S k p]at this;exact this);have H:Hid ((S[k].k.toList==o.toList)=true->∀m,aa [] w m->Calls prog 73 #[pointer (some ⟨L,0,none⟩),int i64 k] m fun e D=>∃Q,e=returned (slice Q.ao (bq T S[k].h).length Q.cap)/\yP m D Q (bq T S[k].h)):=fun h m U=>l6 L k T t P S _ O m (fZ.Wj I.out U) p hT (A.out h);have Z:=lI T S[k].h;have y:Hid (∀m,aa [] w m->Calls prog 93 #[pointer (some ⟨L,0,none⟩),int i64 k,int i64 n] m fun e D=>e=returned (bool (aM S k n))/\D=m):=fun m U=>lG L k n T t P S _ O m (fZ.Wj I.out U) (by omega) hn hS;clear A;generalize bq T S[k].h=B at *;generalize S[k].k=sk at *;obtain⟨M,J⟩:∃M,Hid (aM S k n=M):=⟨_,rfl⟩
   rw[J.out]at r y;cases v:(sk.toList==o.toList)
   ·have l:Hid _:=eG E.out (by rw[r.out,v];rfl);go_wp2;go_roundg (n-(k+1))
    case measure=>omega
    case rel=>exact⟨k+1,by omega,rfl,by go_num,l,C⟩
   ·have G:Hid _:=H.out v;(go_upto_region 6 with (go_at_call 73;refine(G.out _ (by exact C.out)).mono ?_;rintro e Y ⟨V,rfl,F⟩));have ad:Hid _:=F;have f:Hid _:=C.out.trans F.kept;have c:Hid _:=(kC B V.ao V.cap d Y F.own.srcX (by omega));clear F c1 q3;obtain⟨R,K⟩:∃R,Hid (aJ B d=R):=⟨_,rfl⟩
    rw[K.out]at c r;cases R
    ·have l:Hid _:=eG E.out (by rw[r.out,v];rfl);go_wp2_with (go_at_call 94;refine R0 c.out ?_;rintro e x ⟨rfl,a⟩;rw[a];clear a);go_roundg (n-(k+1))
     case measure=>omega
     case rel=>exact⟨k+1,by omega,rfl,by go_num,l,f⟩
    ·have q:Hid _:=y.out Y f.out;cases M
     ·cases b
      ·have l:Hid (jm T S o d n false=true):=mK k u (by rw[r.out,v];rfl);go_wp2_with (first | (go_at_call 94;refine R0 c.out ?_;rintro e x ⟨rfl,a⟩;rw[a];clear a) | (go_at_call 93;refine R0 q.out ?_;rintro e x ⟨rfl,a⟩;rw[a];clear a));go_ret;exact⟨aE l.out.symm,f.out⟩
      ·have l:Hid _:=eG E.out (by rw[r.out,v];rfl);go_wp2_with (first | (go_at_call 94;refine R0 c.out ?_;rintro e x ⟨rfl,a⟩;rw[a];clear a) | (go_at_call 93;refine R0 q.out ?_;rintro e x ⟨rfl,a⟩;rw[a];clear a));go_roundg (n-(k+1))
       case measure=>omega
       case rel=>exact⟨k+1,by omega,rfl,by go_num,l,f⟩
     ·have l:Hid (jm T S o d n b=true):=mK k u (by rw[r.out,v];simp);go_wp2_with (first | (go_at_call 94;refine R0 c.out ?_;rintro e x ⟨rfl,a⟩;rw[a];clear a) | (go_at_call 93;refine R0 q.out ?_;rintro e x ⟨rfl,a⟩;rw[a];clear a));go_ret;exact⟨aE l.out.symm,f.out⟩
  ·have l:Hid (jm T S o d n b=false):=uj (fun j hj=>E.out j (by omega));go_wp2;go_ret;exact⟨aE l.out.symm,C.out⟩
def vN(T:List Tk)(S:List Sm)(n:Nat)(key:List UInt8):Prop:=∀j,j<n->((aq S j).k.toList==key)=true->dG T (aq S j).h
theorem ou:(⟨#[36,99]⟩:ByteArray).toList=[36,99]/\(⟨#[36,118]⟩:ByteArray).toList=[36,118]:=by decide +kernel
def ee(T:List Tk)(S:List Sm)(x:ByteArray)(n:Nat):Bool:=jm T S ⟨#[36,99]⟩ x n false
def ik(T:List Tk)(S:List Sm)(x:ByteArray)(n:Nat):Bool:=jm T S ⟨#[36,118]⟩ x n true
set_option maxRecDepth 512
theorem un(S:List Sm)(a:Option Addr)(b:Nat)(w:World)(d:fZ w L H I x S a b)(j:n<=S.length)(g:S.length<=100000)(i:H.length<=100000)(f:vN H S n [36,99]) :
  Calls prog 173 #[pointer (some ⟨L,0,none⟩),string o,int i64 n] w fun e l=>e=returned (bool (ee H S o n))/\aa [] w l:=by
 have c:Hid _:=(oQ L n ⟨#[36,99]⟩ o false H I x S a b w d j g i (by rw[ou.1];exact f));go_enter func173,ntmps173;go_wp2_with fail;refine R0 c.out ?_;rintro e m ⟨rfl,k⟩;go_wp2;go_ret;exact⟨rfl,k⟩
theorem Bi(S:List Sm)(a:Option Addr)(b:Nat)(w:World)(d:fZ w L H I x S a b)(j:n<=S.length)(g:S.length<=100000)(i:H.length<=100000)(f:vN H S n [36,118]) :
  Calls prog 174 #[pointer (some ⟨L,0,none⟩),string o,int i64 n] w fun e l=>e=returned (bool (ik H S o n))/\aa [] w l:=by
 have c:Hid _:=(oQ L n ⟨#[36,118]⟩ o true H I x S a b w d j g i (by rw[ou.2];exact f));go_enter func174,ntmps174;go_wp2_with fail;refine R0 c.out ?_;rintro e m ⟨rfl,k⟩;go_wp2;go_ret;exact⟨rfl,k⟩
def mz(T:List Tk)(S:List Sm)(x:ByteArray)(j:Nat):Bool:=!((bN T (aq S j)).toList == [])&&((bN T (aq S j)).toList==x.toList)
def bt(T:List Tk)(S:List Sm)(x:ByteArray)(n:Nat):Int:=match (List.range n).find? (mz T S x) with
 | some j=>j
 | none=>-1
theorem tG{S:List Sm}(c:z0<y)(h:mz v S N z0=true)(a:∀j,j<z0->mz v S N j=false):bt v S N y=z0:=by
 have e:(List.range y).find? (mz v S N)=some z0:=by
  rw[Tx];exact⟨h,Sd.2 c,fun j b=>by rw[a j b];rfl⟩
 unfold bt;rw[e]
theorem CC{S:List Sm}(a:∀j,j<y->mz v S N j=false):bt v S N y=-1:=by
 have e:(List.range y).find? (mz v S N)=none:=by
  rw[Tn];intro j b;rw[a j (Sd.1 b)];simp
 unfold bt;rw[e]
set_option maxRecDepth 100000
theorem oZ(S:List Sm)(p:Option Addr)(u:Nat)(w:World)(z:fZ w L H I x S p u)(M:n<=S.length)(G:S.length<=100000)(C:∀j,j<n->(aq S j).a<H.length) :
  Calls prog 172 #[pointer (some ⟨L,0,none⟩),string o,int i64 n] w fun e F=>e=returned (int i64 (bt H S o n))/\aa [] w F:=by
 have B:Hid _:=z;clear z;go_enter func172,ntmps172;go_wp2
 go_loopg [7] n (fun g i wr=>∃k:Nat,k<=n/\g=n-k/\i=int i64 k/\Hid (∀j,j<k->mz H S o j=false)/\Hid (aa [] w wr))
 case atStart=>exact⟨0,by omega,rfl,rfl,(fun j D=>by omega),aa.refl _ _⟩
 case round =>
  obtain⟨k,K,J,rfl,s,m⟩:=hrel;by_cases q:k<n
  ·have f:k<S.length:=(by omega);have E:(k:Int)<(n:Int):=(by omega);have t:Hid (mz H S o k=(!((bN H S[k]).toList == [])&&((bN H S[k]).toList==o.toList))):=(by show _=_;unfold mz;rw[bQ S k f]);have c:Hid _:=(qI L k H I x S p u wr (fZ.Wj B.out m.out) f (by rw[bQ S k f];exact C k q));generalize bN H S[k]=l at *;cases v:(l.toList == [])
   ·cases y:(l.toList==o.toList)
    ·have d:Hid _:=eG s.out (by rw[t.out,y];simp);go_wp2_with (go_at_call 88;refine R0 c.out ?_;rintro e A ⟨rfl,r⟩;have b:Hid _:=m.out.trans r);go_roundg (n-(k+1))
     case measure=>omega
     case rel=>exact⟨k+1,by omega,rfl,by go_num,d,b⟩
    ·have d:Hid (bt H S o n=k):=tG q (by rw[t.out,v,y];rfl) s.out;go_wp2_with (go_at_call 88;refine R0 c.out ?_;rintro e A ⟨rfl,r⟩;have b:Hid _:=m.out.trans r);go_ret;exact⟨au d.out.symm,b.out⟩
   ·have d:Hid _:=eG s.out (by rw[t.out,v];rfl);go_wp2_with (go_at_call 88;refine R0 c.out ?_;rintro e A ⟨rfl,r⟩;have b:Hid _:=m.out.trans r);go_roundg (n-(k+1))
    case measure=>omega
    case rel=>exact⟨k+1,by omega,rfl,by go_num,d,b⟩
  ·have d:Hid (bt H S o n=-1):=CC (fun j D=>s.out j (by omega));go_wp2;go_ret;exact⟨au d.out.symm,m.out⟩
end Go.Proofs.YtnbhnocdhbcbcaaGreat
