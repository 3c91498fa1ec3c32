import Derived.Deep.RegionHeld3
import Derived.Test.YtnbhnocdhbcbcaaGreatU13
namespace Go.Proofs.YtnbhnocdhbcbcaaGreat
open Go.RowKit Tryz
open Value IntKind Ending
set_option maxHeartbeats 0
variable{i s:World}{y z0 z4:Nat}{g:Fs}{c:List Bool}{z5 z6:Hd}{v m:List Tk}{z7:Nat->List Bool->List Tk->List Tk×List Bool}{M:Tk}{N:Xs}{u zt:Xu}{y0:Xt}(L:Nat)(f:Fs)(n:Nat)(o:Xs)(l:Nat)(H:List Tk)(k:Xt)(I:Xu)(D:Nat)(d:Xs)(S:World)(x:Nat)
def Mo(w:World)(gs:Nat)(sn:List Bool)(h:Hd)(out:List Tk)(R:List Tk×List Bool)(e:Ending)(w':World):Prop :=
 ∃h',e=returned (slice h'.ao R.1.length h'.cap)/\aB w' h' (jq R.1)/\j9 w' gs R.2/\zv w w' gs h h'/\R.2.length=sn.length/\R.1.length+2000*aU R.2<=out.length+2000*aU sn/\aU R.2<=aU sn
structure Me(w wr:World)(gf cap:Nat)(fs:Fs)(gs:Nat)(sn:List Bool)(h h':Hd)(O:List Tk)(gT capT:Nat)(T:List Tk):Prop where
 i:wE wr gf cap fs gs sn h' O
 r:zv w wr gs h h'
 t:aB wr ⟨some ⟨gT,0,none⟩,capT⟩ (jq T)
 b1:h'.Yv≠some gT
 b2:gT≠gs
section
variable {w wr wr':World} {gf cap:Nat} {fs:Fs} {gs:Nat} {sn sn':List Bool} {h h' h'':Hd} {O O':List Tk} {gT capT:Nat} {T:List Tk}
theorem Me.turn(a:Me w wr gf cap fs gs sn h h' O gT capT T)(r:zv wr wr' gs h' h'')(o:aB wr' h'' (jq O'))(s:j9 wr' gs sn'):Me w wr' gf cap fs gs sn' h h'' O' gT capT T:=by
 have f:gT<wr.heap.size:=a.t.lt rfl;refine⟨a.i.turn r o s,a.r.trans r,a.t.Ym (fun q c=>r.Yu.block q (a.t.lt c) (fun b=>?_)),?_,a.b2⟩
 ·have e:q=gT:=by cases c;rfl
  subst e;rcases UH.1 b with e | b
  ·exact a.b2 e
  ·exact a.b1 (aR b)
 ·rcases r.Yv with e | ⟨g,e,d⟩
  ·rw[e];exact a.b1
  ·rw[e];intro q;cases q;omega
theorem Me.Yr(a:Me w wr gf cap fs gs sn h h' O gT capT T)(g:bJ wr wr' h' h'')(o:aB wr' h'' (jq O')):Me w wr' gf cap fs gs sn h h'' O' gT capT T :=
 a.turn (zv.of g) o (a.i.seen.Yu g.Yu (fun b=>a.i.a1 (aR b)))
theorem Me.Yh(a:Me w wr gf cap fs gs sn h h' O gT capT T)(k:ae [] wr wr'):Me w wr' gf cap fs gs sn h h' O gT capT T :=
 a.Yr (bJ.Yh k) (a.i.YF.Yh k)
end
theorem pY{b:List Bool}{j d:Nat}{T:List Tk}{R:List Tk×List Bool}(a:Me i s y z0 g z4 b z5 z6 m j d T)(e:R=(m,b))(n:b.length=c.length)(k:m.length+2000*aU b<=v.length+2000*aU c)(l:aU b<=aU c){f:Nat}(o:f=m.length):Mo i z4 c z5 v R (returned (slice z6.ao f z6.cap)) s:=by
 subst e;subst o;exact⟨z6,rfl,a.i.YF,a.i.seen,a.r,n,k,l⟩
theorem AB(h:((M.YE==0)&&(M.s.toList == []))=true):di z7 g (M :: v) c m=((if dG m=true then m else m++[so M 7]),c):=by
 rw[di.eq_def];simp only;rw[Uf h]
theorem Gy(h:((M.YE==0)&&(M.s.toList == []))=false)(a:(M.s.toList == [36,91])=false):di z7 g (M :: v) c m=di z7 g v c (m++[M]):=by
 rw[di.eq_def];simp only;rw[Ud (by rw[h];simp),Uf a]
theorem Li(h:((M.YE==0)&&(M.s.toList == []))=false)(a:(M.s.toList == [36,91])=true)(b:dG m=false):di z7 g (M :: v) c m=(m++[so M 4],c):=by
 rw[di.eq_def];simp only;rw[Ud (by rw[h];simp),Ud (by rw[a];simp),Uf b]
theorem Eo{a:Tk}(h:((M.YE==0)&&(M.s.toList == []))=false)(d:(M.s.toList == [36,91])=true)(e:dG m=true)(f:(dL g a.s a.YE==0)=false):di z7 g (M :: a :: v) c m=(m++[so a (dL g a.s a.YE)],c):=by
 rw[di.eq_def];simp only;rw[Ud (by rw[h];simp),Ud (by rw[d];simp),Ud (by rw[e];simp)];cases v with
 | nil=>rfl
 | cons b v=>simp only;rw[Uf f]
theorem Lh{rec:Nat->List Bool->List Tk->List Tk×List Bool}{fs:Fs}{t a b:Tk}{r:List Tk}{sn:List Bool}(h:((t.YE==0)&&(t.s.toList == []))=false)(c:(t.s.toList == [36,91])=true)(d:dG v=true)(e:(dL fs a.s a.YE==0)=true):di rec fs (t :: a :: b :: r) sn v =
  if(eC b.s b.YE==0)=false then(v++[so b (eC b.s b.YE)],sn)
  else if sn.getD (bR fs a.s).toNat true=true then di rec fs r sn v
  else if fm (rec (bR fs a.s).toNat sn v).1=true then rec (bR fs a.s).toNat sn v
  else di rec fs r (rec (bR fs a.s).toNat sn v).2 (rec (bR fs a.s).toNat sn v).1:=by
 rw[di.eq_def];simp only;rw[Ud (by rw[h];simp),Ud (by rw[c];simp),Ud (by rw[d];simp),Ud (by rw[e];simp)]
theorem Dt(a:Fs)(i:Nat):dP d a i<(i:Int)+a.length∨a.length=0:=by
 induction a generalizing i with
 | nil=>exact Uo rfl
 | cons f r b =>
  left
  rw[dP];split
  ·simp;omega
  ·rcases b (i+1) with h | h
   ·simp at h ⊢;omega
   ·rw[UI h,dP];simp;omega
theorem PC(h:0<=bR g N):bR g N<g.length:=by
 unfold bR at h ⊢;rcases Dt N g 0 with e | e
 ·simpa using e
 ·rw[UI e,dP]at h;omega
theorem Gh{r:Int}(h:(dL g N r==0)=true):(N.toList == [])=false/\0<=bR g N:=by
 unfold dL at h;cases a:(r==0)
 ·rw[Uf a,a]at h;cases h
 ·rw[Ud (by rw[a];simp)]at h;cases b:(N.toList == [])
  ·rw[Ud (by rw[b];simp)]at h;refine⟨rfl,?_⟩;split at h
   ·cases h
   ·split at h
    ·cases h
    ·omega
  ·rw[Uf b]at h;cases h
set_option maxRecDepth 100000
theorem Lj(cT:f.length<=4)(cq:∀k,(ak f k).size<=1024)(n:Nat):∀(k:Nat) (m:List Bool) (j:List Tk) (h:Hd) (L F:Nat) (w:World),aU m<=n->m.length=f.length->f.length<=F->k<f.length->m[k]?=some false->j.length+2000*aU m<=100000->wE w D x f L m h j ->
  Calls prog 83 #[slice (some ⟨D,0,none⟩) f.length x,int i64 k,slice (some ⟨L,0,none⟩) f.length F,slice h.ao j.length h.cap] w fun e w'=>Mo w L m h j (eU f n k m j) e w':=by
 induction n with
 | zero=>intro k m j h L F w hn b5 b4 hk hs;have:=G7 m k hs;omega
 | succ n ih =>
  intro k m j h L F w hn b5 b4 hk hs hb hI;have cf:Xr _:=ih;clear ih;have c6:(k:Int)<f.length:=by omega
  have s0:=hI.seen.cell k false hs;have s1:=am hI.seen k;have k1:ae [L] w (w.setCell ⟨L,k,none⟩ (bool true)):=(ae.refl [L] w).sl1 _;obtain⟨w1,az⟩:=bm (w.setCell ⟨L,k,none⟩ (bool true));rw[az.o]at k1;have R1:zv w w1 L h h:=⟨k1.mono (fun c9 hx _=>by simp at hx;simp[hx]),Us rfl⟩;have a7:wE w1 D x f L (m.set k true) h j:=hI.turn R1 (hI.YF.Ym (fun q hq=>k1.block q (hI.YF.lt hq) (by simp;intro e;exact hI.a1 (by rw[<-e];exact hq)))) (by rw[<-az.o];exact hI.seen.set k);have hu:=mm m k hs;have cu:(m.set k true).length=f.length:=by rw[UZ];exact b5
  obtain⟨cP,e1,cs,c0,c1⟩:=a7.src.2 k hk;cases e1
  have cS:=cq k;have bp:Xr _:=EU f k;have ai:Xr _:=ON f k;have bv:Xr _:=LQ f k;have HT:Xr (sB f k=b7 false (iZ (aF f k) (ak f k))):=rfl;have HR:Xr (eU f (n+1) k m j=di (eU f n) f (sB f k) (m.set k true) j):=rfl;have bx:Xr _:=zu (aF f k) (ak f k);have cE:=Bc (aF f k) (ak f k);obtain⟨R,cj⟩:=bm (eU f (n+1) k m j);rw[cj.o]at HR ⊢;have ag:Xr _:=a7;have bg:Xr _:=R1;clear a7 R1 k1 hI;go_enter func83,ntmps83;go_upto_region 2 with fail
  rw[az.o];go_upto_region 3 with (go_at_call 116;refine(Ic _ _ _ (by omega)).mono ?_;rintro e w2 ⟨hW,rfl,oW,kW,fW⟩)
  have I:Xr _:=(JJ (iZ (aF f k) (ak f k)) hW.ao hW.cap w2 (by omega) oW.src (fun t ht=>by have:=bx.o t ht;omega));rw[<-HT.o]at I;go_upto_region 4 with (go_at_call 117;refine(Ug I.o ?_);rintro e w3 ⟨hT,rfl,bT⟩)
  obtain⟨T,cl⟩:=bm (sB f k);rw[cl.o]at bp ai bv HR bT ⊢;have cp:0<T.length:=by
   obtain⟨u,e1,-⟩:=ai.o;cases T with
   | nil=>cases e1
   | cons _ _=>simp
  obtain⟨gT,eT,cV,b0⟩:=rJ bT.YF cp;obtain⟨cL,S⟩:=hT;simp only at eT;subst eT;have b0:T.length<=S:=b0;have cR:T.length<=1026:=by have:=bp.o;omega
  have ck:Xr (Me w w3 D x f L (m.set k true) h h j gT S T):=by
   have f1:=bT.far gT rfl;have f2:=kW.size;have f3:=aj ag.o.seen;refine⟨(ag.o.Yh kW).Yh bT.Yu,bg.o.trans (zv.of (bJ.Yh (kW.trans bT.Yu))),bT.YF,fun e=>?_,by omega⟩;have:=ag.o.YF.lt e;omega
  obtain⟨U1,a6⟩:=bm (aU (m.set k true));obtain⟨U,K⟩:=bm (aU m);rw[a6.o]at hu;rw[K.o]at hu hn hb;clear c0 c1 s0 s1 cs ag bg az oW kW fW I bT bx HT cE;go_wp2
  go_loopg [3,11] T.length (fun g o i wr=>∃(q:Nat) (N:Hd) (O:List Tk) (c:List Bool),q<=T.length/\g=T.length-q/\o=slice N.ao O.length N.cap/\i=int i64 q/\(O.length+2000*aU c<=j.length+q+2000*U1/\aU c<=U1/\c.length=f.length)/\Xr (di (eU f n) f (T.drop q) c O=R)/\Xr (Me w wr D x f L c h N O gT S T))
  ·exact⟨0,h,j,m.set k true,by omega,rfl,rfl,rfl,⟨by rw[a6.o];omega,by rw[a6.o];omega,cu⟩,by show _=_;rw[VK];exact HR.o.symm,ck⟩
  obtain⟨q,N,O,c,hq,hg,rfl,rfl,⟨z1,z2,z3⟩,Z,J⟩:=hrel;obtain⟨U2,d⟩:=bm (aU c);rw[d.o]at z1 z2;rcases kn q T.length with ⟨aS,c7⟩ | ⟨aS,-⟩
  ·obtain⟨c0,c1,c2,c3,c4⟩:=rr J.o.t rfl q T[q] (Ub aS);have HD:Xr _:=UB aS;have bd:Xr ((T[q].s.toList == [])=false->q+1<T.length):=fun he=>wC.next ai.o q _ (Ub aS) he;rw[HD.o]at Z;obtain⟨bw,M⟩:=bm (dG O);have a2:Xr _:=(Br O N.ao N.cap wr (by omega) J.o.i.YF.src);rw[M.o]at a2;have cX:gT<wr.heap.size:=J.o.t.lt rfl;generalize T[q]=t at *;obtain⟨H,P,tf,tl,tc⟩:=t;simp only at c0 c1 c2 c3 c4 bd;(go_upto_region 8 with (go_at_call 118;refine Ug a2.o ?_;rintro e w4 ⟨rfl,b6⟩;rw[b6];clear b6));clear a2
   go_cut [47] from 34 to 47 (fun cF wd=>cF=bool ((P==0)&&(H.toList == []))/\wd=wr)
   case first =>
    cases hr:(P==0)
    ·go_wp2_with fail;go_meet
     case rel=>exact⟨by rw[hr];rfl,rfl⟩
    ·cases he:(H.toList == [])
     all_goals
      go_wp2_with fail;go_meet
      case rel=>exact⟨by rw[hr,he];rfl,rfl⟩
   case rest =>
    obtain⟨rfl,cB⟩:=hcut;subst cB;cases hA:((P==0)&&(H.toList == []))
    ·cases hi:(H.toList == [36,91])
     ·have C:Xr (di (eU f n) f (T.drop (q+1)) c (O++[⟨H,P,tf,tl,tc⟩])=R):=(by show _=_;rw[<-Z.o];exact(Gy hA hi).symm);go_wp2_with (at_builtin;refine cw _ rfl (.tmp 66) (.tmp 71) rfl N O ⟨H,P,tf,tl,tc⟩ rfl J.o.i.YF (by omega) rfl ?_;intro h5 X y v;have HM:Xr _:=J.o.Yr v y;clear y v);go_roundg (T.length-(q+1))
      ·exact⟨q+1,h5,O++[⟨H,P,tf,tl,tc⟩],c,by omega,rfl,by simp,by go_num,⟨by rw[d.o];simp;omega,by rw[d.o];exact z2,z3⟩,C,HM⟩
      omega
     ·cases bw
      ·have C:Xr (R=(O++[so ⟨H,P,tf,tl,tc⟩ 4],c)):=(by show _=_;rw[<-Z.o];exact Li hA hi M.o);have A:(O++[so ⟨H,P,tf,tl,tc⟩ 4]).length+2000*aU c<=j.length+2000*aU m:=(by rw[d.o,K.o];simp;omega);have l:aU c<=aU m:=(by rw[d.o,K.o];omega);go_wp2_with (at_builtin;refine cw _ rfl (.tmp 75) (.tmp 82) rfl N O (so ⟨H,P,tf,tl,tc⟩ 4) rfl J.o.i.YF (by omega) rfl ?_;intro h5 X y v;have HM:Xr _:=J.o.Yr v y;clear y v);go_ret;exact pY HM.o C.o (by omega) A l (by simp)
      ·have he:(H.toList == [])=false:=by
        have e:H.toList=[36,91]:=(by simpa using hi);rw[e];rfl
       have V:=bd.o he;obtain⟨d0,d1,d2,d3,d4⟩:=rr J.o.t rfl (q+1) T[q+1] (Ub V);have cc:Xr _:=UB V;rw[cc.o]at Z;have cz:=bv.o T[q+1] (Uu V);have aT:Xr ((T[q+1].s.toList == [])=false->q+1+1<T.length):=fun he=>wC.next ai.o (q+1) _ (Ub V) he;have ca:Xr (T[q+1]?=some T[q+1]):=Ub V;generalize T[q+1]=a at *;obtain⟨Y,ar,af,al,ac⟩:=a;simp only at d0 d1 d2 d3 d4 aT cz;obtain⟨r1,ax⟩:=bm (dL f Y ar);have a4:Xr _:=(Gf f (some ⟨D,0,none⟩) x Y af ar al ac _ (by omega) J.o.i.src (by omega));rw[ax.o]at a4;(go_upto_region 17 with (go_at_call 119;refine Ug a4.o ?_;rintro e X ⟨rfl,k5⟩));obtain⟨W5,an⟩:=bm (X.alloc (.cells #[string ⟨#[]⟩,int i64 r1,string af,int i64 al,int i64 ac] 138));have a0:=fE an.o;have K5:=k5.trans (show ae [] X W5 by rw[<-an.o];exact bM.alloc _);have a5:Xr _:=J.o.Yh K5;have W:=k5.size;rw[an.o];clear c0 c1 c2 c3 c4 d0 d1 d2 d3 d4 an a4 k5;obtain⟨p0,p1,p2,p3,p4⟩:=lr a0;cases h1:(r1==0)
       ·have C:Xr (R=(O++[so ⟨Y,ar,af,al,ac⟩ r1],c)):=(by show _=_;rw[<-Z.o,Eo hA hi M.o (by show(dL f Y ar==0)=false;rw[ax.o];exact h1)];simp only;rw[ax.o]);have A:(O++[so ⟨Y,ar,af,al,ac⟩ r1]).length+2000*aU c<=j.length+2000*aU m:=(by rw[d.o,K.o];simp;omega);have l:aU c<=aU m:=(by rw[d.o,K.o];omega);go_wp2_with (at_builtin;refine cw _ rfl (.tmp 103) (.tmp 105) rfl N O (so ⟨Y,ar,af,al,ac⟩ r1) rfl a5.o.i.YF (by omega) rfl ?_;intro h5 w8 y v;have HM:Xr _:=a5.o.Yr v y;clear y v);go_ret;exact pY HM.o C.o (by omega) A l (by simp)
       ·have cx:r1=0:=(by simpa using h1);subst cx;clear h1;have be:Xr ((dL f Y ar==0)=true):=cM (by rw[ax.o];rfl);obtain⟨cA,b1⟩:=Gh be.o;have b3:q+2<T.length:=aT.o cA;obtain⟨d0,d1,d2,d3,d4⟩:=rr a5.o.t rfl (q+2) T[q+2] (Ub b3);have ce:Xr (T.drop (q+1+1)=T[q+2] :: T.drop (q+3)):=UB b3;rw[ce.o]at Z;generalize T[q+2]=b at *;obtain⟨bs,br,bf,bl,bc⟩:=b;simp only at d0 d1 d2 d3 d4;obtain⟨r2,bz⟩:=bm (eC bs br);have a3:Xr _:=Da bs bf br bl bc W5;rw[bz.o]at a3;have p:Xr _:=Lh (rec:=eU f n) (fs:=f) (r:=T.drop (q+3)) (sn:=c) (t:=⟨H,P,tf,tl,tc⟩) (a:=⟨Y,ar,af,al,ac⟩) (b:=⟨bs,br,bf,bl,bc⟩) hA hi M.o be.o;rw[Z.o]at p;simp only at p;rw[bz.o]at p;(go_upto_region 19 with (go_at_call 120;refine Ug a3.o ?_;rintro e w6 ⟨rfl,k6⟩;have z:=k6.get a0 (by simp);have f0:=am z 0;have f1:=am z 1;have f2:=am z 2;have f3:=am z 3;have f4:=am z 4;have o0:=ah z 0;have o1:=ah z 1;have o2:=ah z 2;have o3:=ah z 3;have o4:=ah z 4;have c8:=aj z));obtain⟨W6,ap⟩:=bm (((((w6.setCell ⟨X.heap.size,0,none⟩ (string ⟨#[]⟩)).setCell ⟨X.heap.size,1,none⟩ (int i64 r2)).setCell ⟨X.heap.size,2,none⟩ (string bf)).setCell ⟨X.heap.size,3,none⟩ (int i64 bl)).setCell ⟨X.heap.size,4,none⟩ (int i64 bc));have K6:=(show Xr (ae [] _ W6) by rw[<-ap.o];exact(((((K5.trans k6).setCell (Uo (by exact W)) _).setCell (Uo (by exact W)) _).setCell (Uo (by exact W)) _).setCell (Uo (by exact W)) _).setCell (Uo (by exact W)) _);have E:Xr _:=J.o.Yh K6.o;have BX:W6.heap[X.heap.size]?=some (.cells #[string ⟨#[]⟩,int i64 r2,string bf,int i64 bl,int i64 bc] 138):=by
         rw[<-ap.o,ab (ab (ab (ab (ab z 0 _) 1 _) 2 _) 3 _) 4 _];rfl
        rw[ap.o];clear p0 p1 p2 p3 p4 d0 d1 d2 d3 d4 f0 f1 f2 f3 f4 o0 o1 o2 o3 o4 a3 ap a0 z K6 k6 K5;obtain⟨p0,p1,p2,p3,p4⟩:=lr BX;cases h2:(r2==0)
        ·have C:Xr (R=(O++[so ⟨bs,br,bf,bl,bc⟩ r2],c)):=(by show _=_;rw[p.o,Uf h2]);have A:(O++[so ⟨bs,br,bf,bl,bc⟩ r2]).length+2000*aU c<=j.length+2000*aU m:=(by rw[d.o,K.o];simp;omega);have l:aU c<=aU m:=(by rw[d.o,K.o];omega);go_wp2_with (at_builtin;refine cw _ rfl (.tmp 103) (.tmp 105) rfl N O (so ⟨bs,br,bf,bl,bc⟩ r2) rfl E.o.i.YF (by omega) rfl ?_;intro h5 w8 y v;have HM:Xr _:=E.o.Yr v y;clear y v);go_ret;exact pY HM.o C.o (by omega) A l (by simp)
        ·have cy:r2=0:=(by simpa using h2);subst cy;clear h2;rw[Ud (by simp)]at p;obtain⟨jn,b2⟩:∃jn:Nat,bR f Y=(jn:Int):=⟨(bR f Y).toNat,by omega⟩
         have ct:jn<f.length:=(by have:=PC b1;omega);have c5:(jn:Int)<f.length:=(by omega);have cH:(0:Int)<=(jn:Int):=(by omega);have ad:Xr _:=(nD f (some ⟨D,0,none⟩) x Y W6 (by omega) E.o.i.src);rw[b2]at ad p;rw[UR]at p;obtain⟨e0,-⟩:=rr E.o.t rfl (q+1) _ ca.o;simp only at e0;obtain⟨bj,ba⟩:∃bj,c[jn]?=some bj:=⟨_,Ub (by omega)⟩
         have sj:=E.o.i.seen.cell jn bj ba;have cr:c.getD jn true=bj:=(by rw[Uc,ba];rfl);rw[cr]at p;clear b2 b1;cases bj
         ·rw[Ud (by simp)]at p;have Q:Xr _:=(cf.o jn c O N L F W6 (by rw[d.o];omega) z3 b4 ct ba (by rw[d.o];omega) E.o.i);obtain⟨R7,ch⟩:=bm (eU f n jn c O);rw[ch.o]at Q p;obtain⟨O7,G⟩:=R7;(go_upto_region 24 with (first | (go_at_call 36;refine Ug ad.o ?_;rintro e w9 ⟨rfl,B⟩;rw[B];clear B) | (go_at_call 83;refine Ug Q.o ?_;rintro e w7 ⟨h7,rfl,o7,s7,r7,l7,n7,u7⟩;have bo:Xr _:=E.o.turn r7 o7 s7)));clear p0 p1 p2 p3 p4 e0 sj Q ad BX;have l7:G.length=c.length:=l7;have n7:O7.length+2000*aU G<=O.length+2000*aU c:=n7;have u7:aU G<=aU c:=u7;obtain⟨bk,cb⟩:=bm (fm O7);have co:O7.length<=100000:=by rw[d.o]at n7;omega
          have I:Xr _:=vW O7 h7.ao h7.cap w7 co o7.src;rw[cb.o]at I p;rw[d.o]at n7 u7;clear o7 s7 r7;cases bk
          ·have C:Xr (di (eU f n) f (T.drop (q+3)) G O7=R):=(by show _=_;rw[p.o,Ud (by simp)]);go_wp2_with (go_at_call 84;refine Ug I.o ?_;rintro e w9 ⟨rfl,B⟩;rw[B];clear B);go_roundg (T.length-(q+3))
           ·exact⟨q+3,h7,O7,G,by omega,rfl,rfl,by go_num,⟨by omega,by omega,by omega⟩,C,bo⟩
           omega
          ·have C:Xr (R=(O7,G)):=(by show _=_;rw[p.o,Uf rfl]);have A:O7.length+2000*aU G<=j.length+2000*aU m:=(by rw[K.o];omega);have l:aU G<=aU m:=(by rw[K.o];omega);go_wp2_with (go_at_call 84;refine Ug I.o ?_;rintro e w9 ⟨rfl,B⟩;rw[B];clear B);go_ret;exact pY bo.o C.o (by omega) A l rfl
         ·rw[Uf rfl]at p;go_wp2_with (go_at_call 36;refine Ug ad.o ?_;rintro e w9 ⟨rfl,B⟩;rw[B];clear B);go_roundg (T.length-(q+3))
          ·exact⟨q+3,N,O,c,by omega,rfl,rfl,by go_num,⟨by rw[d.o];omega,by rw[d.o];exact z2,z3⟩,p.o.symm,E⟩
          omega
    ·cases bw
     ·have C:Xr (R=(O++[so ⟨H,P,tf,tl,tc⟩ 7],c)):=by show _=_;rw[<-Z.o];exact by rw[AB hA,Ud (by rw[M.o];simp)]
      have A:(O++[so ⟨H,P,tf,tl,tc⟩ 7]).length+2000*aU c<=j.length+2000*aU m:=(by rw[d.o,K.o];simp;omega);have l:aU c<=aU m:=(by rw[d.o,K.o];omega);go_wp2_with (at_builtin;refine cw _ rfl (.tmp 50) (.tmp 57) rfl N O (so ⟨H,P,tf,tl,tc⟩ 7) rfl J.o.i.YF (by omega) rfl ?_;intro h5 X y v;have HM:Xr _:=J.o.Yr v y;clear y v);go_ret;exact pY HM.o C.o (by omega) A l (by simp)
     ·have C:Xr (R=(O,c)):=(by show _=_;rw[<-Z.o,AB hA,Uf M.o]);have A:O.length+2000*aU c<=j.length+2000*aU m:=(by rw[d.o,K.o];omega);have l:aU c<=aU m:=(by rw[d.o,K.o];omega);go_wp2;go_ret;exact pY J.o C.o (by omega) A l rfl
  ·have e:q=T.length:=(by omega);subst e;have C:Xr (R=(O,c)):=cM (by rw[<-Z.o,Wr,di]);have A:O.length+2000*aU c<=j.length+2000*aU m:=by rw[d.o,K.o];omega
   have l:aU c<=aU m:=(by rw[d.o,K.o];omega);go_wp2;go_ret;exact pY J.o C.o (by omega) A l rfl
theorem Nt:(prog.info? 4).map (fun i=>(i.zero,i.size,i.bytes))=some (some (bool false),1,1):=by kernel_rfl
theorem yl:madeCells (bool false).cells (x*1)=((List.replicate x false).map bool).toArray:=by
 rw[XL];apply Array.ext
 ·rw[VH];simp
 ·intro i a b;have e:(bool false).cells=#[bool false]:=rfl;simp[madeCells,e,Nat.mod_one]
def qw(fs:Fs)(k:Nat):List Tk:=(eU fs fs.length k (List.replicate fs.length false) []).1
def gO:Tk:=⟨⟨#[]⟩,0,⟨#[]⟩,0,0⟩
def bL(fs:Fs)(k:Nat):List Tk×Tk:=if fm (qw fs k)=true then((qw fs k).dropLast,(qw fs k).getLast?.getD gO) else(qw fs k,gO)
theorem og:aU (List.replicate x false)=x:=by
 unfold aU;rw[List.countP_replicate];simp
theorem lX.drop(h:lX i u y v):lX i u y v.dropLast:=by
 refine⟨by rw[VT];have:=h.1;omega,fun k t a=>h.2 k t ?_⟩;rw[List.getElem?_dropLast]at a;split at a
 ·exact a
 ·cases a
theorem lX.keptS{S:Xv}(h:lX i u y v)(k:ae S i s)(m:∀g,u=some ⟨g,0,none⟩->g∉S):lX s u y v:=by
 refine⟨h.1,fun j t n=>?_⟩;obtain⟨g,e,a,b,c,d,f,l⟩:=h.2 j t n;have q:∀o,s.cell? ⟨g,o,none⟩=i.cell? ⟨g,o,none⟩:=fun o=>Uw (k.block g a (m g e));exact⟨g,e,Ul a k.size,by rw[q];exact b,by rw[q];exact c,by rw[q];exact d,by rw[q];exact f,by rw[q];exact l⟩
theorem t9{j k l m:Value}(h:i.heap[y]?=some (.cells #[j,k,l,m] 87))(a b c d:Value) :
  (i.setCell ⟨y,0,none⟩ a).cell? ⟨y,0,none⟩=some a/\((i.setCell ⟨y,0,none⟩ a).setCell ⟨y,1,none⟩ b).cell? ⟨y,1,none⟩=some b/\(((i.setCell ⟨y,0,none⟩ a).setCell ⟨y,1,none⟩ b).setCell ⟨y,2,none⟩ c).cell? ⟨y,2,none⟩=some c/\((((i.setCell ⟨y,0,none⟩ a).setCell ⟨y,1,none⟩ b).setCell ⟨y,2,none⟩ c).setCell ⟨y,3,none⟩ d).cell? ⟨y,3,none⟩=some d:=by
 have e:=ab h 0 a;have f:=ab e 1 b;have g:=ab f 2 c;have n:=ab g 3 d;exact⟨by rw[ah e];rfl,by rw[ah f];rfl,by rw[ah g];rfl,by rw[ah n];rfl⟩
theorem J9(ap:f.length<=4)(an:∀D,(ak f D).size<=1024)(hk:D<f.length)(hO:om S (some ⟨n,0,none⟩) l f)(hg:n<S.heap.size) :
  Calls prog 55 #[slice (some ⟨n,0,none⟩) f.length l,int i64 D] S fun e w'=>∃ao c,e=returned (tuple #[slice ao (bL f D).1.length c,agg #[int i64 (bL f D).2.YE,string (bL f D).2.YB,int i64 (bL f D).2.YC,int i64 (bL f D).2.YD]])/\lX w' ao c (bL f D).1/\ae [] S w'/\∀g,ao=some ⟨g,0,none⟩->S.heap.size<=g/\g<w'.heap.size:=by
 obtain⟨i1,ar,az,aS,aT⟩:=UC Nt;have m2:=fun S=>dV (P:=prog) S 134 4 i1 _ underlying134 ar az f.length 1 aS (by rw[aT];omega) (by omega);obtain⟨mc,J⟩:=bm (madeCells (bool false).cells (f.length*1));have af:Xr (mc=((List.replicate f.length false).map bool).toArray):=cM (by rw[<-J.o,yl]);rw[J.o]at m2;obtain⟨W,I⟩:=bm ((S.alloc (.cells #[int i64 0,string ⟨#[]⟩,int i64 0,int i64 0] 87)).alloc (.cells mc 4));have R:ae [] S W:=by rw[<-I.o];exact(bM.alloc _).alloc _
 have SW:j9 W (S.heap.size+1) (List.replicate f.length false):=by
  rw[<-I.o,af.o];have:=Ui (S.alloc (.cells #[int i64 0,string ⟨#[]⟩,int i64 0,int i64 0] 87)) (.cells ((List.replicate f.length false).map bool).toArray 4);simpa [j9] using this
 have Q:W.heap[S.heap.size]?=some (.cells #[int i64 0,string ⟨#[]⟩,int i64 0,int i64 0] 87):=by
  rw[<-I.o];exact(bM.alloc _).get (Ui _ _) (by simp)
 have hI:wE W n l f (S.heap.size+1) (List.replicate f.length false) ⟨none,0⟩ []:=⟨Uj _ _ _ _,SW,hO.Yu R (by simp),(by intro e;cases e),(by intro e;cases e),by omega,Ul hg R.size⟩;have B:Xr _:=(Lj f n l ap an f.length D (List.replicate f.length false) [] ⟨none,0⟩ (S.heap.size+1) f.length W (by rw[og];omega) (by simp) (by omega) hk (by rw[VC];simp[hk]) (by rw[og];simp;omega) hI);have b:Xr _:=R;clear hI SW R hO;go_enter func55,ntmps55;go_upto_region 2 with fail
 rw[I.o];obtain⟨R7,H⟩:=bm (eU f f.length D (List.replicate f.length false) []);rw[H.o]at B;have u:Xr (qw f D=R7.1):=cM (by unfold qw;rw[H.o]);obtain⟨L,a0⟩:=R7;have u:Xr (qw f D=L):=u.o;go_upto_region 3 with (go_at_call 83;refine Ug B.o ?_;rintro e y ⟨d,rfl,O,s7,U,l7,n7,u7⟩)
 have n7:L.length+2000*aU a0<=0+2000*aU (List.replicate f.length false):=n7;rw[og]at n7;have O:aB y d (jq L):=O;have hL:L.length<=100000:=by omega
 have C:ae [S.heap.size+1] W y:=U.Yu;have x:=C.get Q (by simp);have z:Xr (∀g,d.ao=some ⟨g,0,none⟩->g∉[S.heap.size]):=fun g r T=>by
  have F:d.Yv=some g:=by unfold Hd.Yv;rw[r];rfl
  have e3:=aj Q;simp at T;rcases U.Yv with e | ⟨q,e,ax⟩
  ·rw[F]at e;cases e
  ·rw[F]at e;cases e;omega
 have m:Xr (∀g,d.ao=some ⟨g,0,none⟩->S.heap.size<=g/\g<y.heap.size):=fun g r=>by
  have F:d.Yv=some g:=by unfold Hd.Yv;rw[r];rfl
  have e3:=aj Q;have e4:=O.lt F;rcases U.Yv with e | ⟨q,e,ax⟩
  ·rw[F]at e;cases e
  ·rw[F]at e;cases e;omega
 have A:Xr (ae [] S y):=⟨C.os.trans b.o.os,C.tape.trans b.o.tape,C.output.trans b.o.output,Un b.o.size C.size,fun q T _=>by rw[C.block q (Ul T b.o.size) (by simp;omega),b.o.block q T (by simp)]⟩;obtain⟨bk,k⟩:=bm (fm L);have i:Xr _:=vW L d.ao d.cap y hL O.src;rw[k.o]at i;have f0:=am x 0;have f1:=am x 1;have f2:=am x 2;have f3:=am x 3;obtain⟨g0,g1,g2,g3⟩:=C9 x;have j:Xr _:=O.src;clear B Q I m2 U s7 l7 u7 b C;cases bk
 ·have G:Xr (bL f D=(L,gO)):=by show _=_;unfold bL;rw[u.o,k.o,Ud (by simp)]
  go_wp2_with (go_at_call 84;refine Ug i.o ?_;rintro e w9 ⟨rfl,s⟩;rw[s];clear s);obtain⟨x0,x1,x2,x3⟩:=t9 x (int i64 0) (string ⟨#[]⟩) (int i64 0) (int i64 0);have K:ae [S.heap.size] y ((((y.setCell ⟨S.heap.size,0,none⟩ (int i64 0)).setCell ⟨S.heap.size,1,none⟩ (string ⟨#[]⟩)).setCell ⟨S.heap.size,2,none⟩ (int i64 0)).setCell ⟨S.heap.size,3,none⟩ (int i64 0)):=((((ae.refl _ _).sl1 _).sl1 _).sl1 _).sl1 _;exact Um (v:=tuple #[slice d.ao L.length d.cap,agg #[int i64 0,string ⟨#[]⟩,int i64 0,int i64 0]]) (by simp[results,results55,go_sem,x0,x1,x2,x3]) rfl ⟨d.ao,d.cap,by rw[G.o];rfl,by rw[G.o];exact lX.keptS j.o K z.o,(((A.o.sr1 (by simp) _).sr1 (by simp) _).sr1 (by simp) _).sr1 (by simp) _,fun g r=>⟨(m.o g r).1,Ul (m.o g r).2 K.size⟩⟩
 ·have hn:0<L.length:=by
   cases al:L with
   | nil=>rw[al]at k;cases k.o
   | cons _ _=>simp
  obtain⟨a,p⟩:=bm (L.length);have M:a-1<L.length:=by rw[<-p.o];omega
  rw[p.o]at hn hL i ⊢;obtain⟨gs,r,a2,c0,c1,c2,c3,c4⟩:=j.o.2 (a-1) L[a-1] (Ub M);have G:Xr (bL f D=(L.dropLast,L[a-1])):=by
   show _=_;unfold bL;rw[u.o,k.o,Uf rfl,V8,p.o,Ub M];rfl
  have ac:Xr (L.dropLast.length=a-1):=cM (by rw[VT,p.o]);have a1:a<=d.cap:=by have:=j.o.1;rw[p.o]at this;exact this
  generalize L[a-1]=t at *;obtain⟨ts,Z,X,Y,V⟩:=t;simp only at c0 c1 c2 c3 c4;have a4:IntKind.i64.wrap ((a:Int)-1)=(a:Int)-1:=by rw[Vv];omega
  have a3:((a:Int)-1).toNat=a-1:=by omega
  have b2:(a:Int)-1<(a:Int):=by omega
  have b3:(1:Int)<=(a:Int):=by omega
  have b4:(a:Int)-1<=(d.cap:Int):=by omega
  rw[r]at i j z m ⊢;obtain⟨W8,w⟩:=bm (y.alloc (.cells #[string ts,int i64 Z,string X,int i64 Y,int i64 V] 138));go_upto_region 7 with (go_at_call 84;refine Ug i.o ?_;rintro e w9 ⟨rfl,s⟩;rw[s];clear s)
  rw[w.o];have N:=fg w.o;have BX:=fE w.o;have E:=N.get x (by simp);have ag:Xr _:=lX.drop (lX.Yh j.o N);have ad:Xr _:=A.o.trans N;have ai:Xr _:=N.size;clear c0 c1 c2 c3 c4 f0 f1 f2 f3 g0 g1 g2 g3 i w x N A j;obtain⟨-,p1,p2,p3,p4⟩:=lr BX;have f0:=am E 0;have f1:=am E 1;have f2:=am E 2;have f3:=am E 3;obtain⟨g0,g1,g2,g3⟩:=C9 E;go_region;go_wp2;obtain⟨x0,x1,x2,x3⟩:=t9 E (int i64 Z) (string X) (int i64 Y) (int i64 V);have K:ae [S.heap.size] W8 ((((W8.setCell ⟨S.heap.size,0,none⟩ (int i64 Z)).setCell ⟨S.heap.size,1,none⟩ (string X)).setCell ⟨S.heap.size,2,none⟩ (int i64 Y)).setCell ⟨S.heap.size,3,none⟩ (int i64 V)).drew:=(((((ae.refl _ _).sl1 _).sl1 _).sl1 _).sl1 _).drew;exact Um (v:=tuple #[slice (some ⟨gs,0,none⟩) (a-1) d.cap,agg #[int i64 Z,string X,int i64 Y,int i64 V]]) (by simp[results,results55,go_sem,x0,x1,x2,x3]) rfl ⟨some ⟨gs,0,none⟩,d.cap,by rw[G.o,ac.o],by rw[G.o];exact lX.keptS ag.o K z.o,((((ad.o.sr1 (by simp) _).sr1 (by simp) _).sr1 (by simp) _).sr1 (by simp) _).drew,fun g r=>⟨(m.o g r).1,Ul (m.o g r).2 (Un ai.o K.size)⟩⟩
structure Sm where
 a:Nat
 z:Nat
 h:Nat
 k:Xs
def CW(w:World)(ao:Xu)(cap:Nat)(S:List Sm):Prop:=S.length<=cap/\∀k s,S[k]?=some s->∃g,ao=some ⟨g,0,none⟩/\g<w.heap.size /\
  w.cell? ⟨g,k*4,none⟩=some (int i64 s.a)/\w.cell? ⟨g,k*4+1,none⟩=some (int i64 s.z)/\w.cell? ⟨g,k*4+2,none⟩=some (int i64 s.h)/\w.cell? ⟨g,k*4+3,none⟩=some (string s.k)
theorem CW.Yh{S:List Sm}(h:CW i u y S)(k:ae [] i s):CW s u y S:=by
 refine⟨h.1,fun j t l=>?_⟩;obtain⟨g,e,a,b,c,d,f⟩:=h.2 j t l;have q:∀o,s.cell? ⟨g,o,none⟩=i.cell? ⟨g,o,none⟩:=fun o=>Uw (k.block g a (by simp));exact⟨g,e,Ul a k.size,by rw[q];exact b,by rw[q];exact c,by rw[q];exact d,by rw[q];exact f⟩
structure ge(w:World)(b:Nat)(T:List Tk)(aoT:Xu)(cT:Nat)(S:List Sm)(aoS:Xu)(cS:Nat):Prop where
 d:w.heap[b]?=some (.cells #[slice aoT T.length cT,slice aoS S.length cS] 141)
 t:lX w aoT cT T
 s:CW w aoS cS S
theorem ge.Yh{S:List Sm}(h:ge i y v u z0 S zt z4)(k:ae [] i s):ge s y v u z0 S zt z4 :=
 ⟨k.get h.d (by simp),h.t.Yh k,h.s.Yh k⟩
theorem ge.cells{S:List Sm}(h:ge i y v u z0 S zt z4):i.cell? ⟨y,0,none⟩=some (slice u v.length z0)/\i.cell? ⟨y,1,none⟩=some (slice zt S.length z4)/\y<i.heap.size :=
 ⟨by rw[ah h.d];rfl,by rw[ah h.d];rfl,aj h.d⟩
def aA(k:Xs):Bool:=(k.toList == [36,97])||(k.toList == [36,112])
def aG(k:Xs):Bool:=(k.toList == [36,102])||(k.toList == [36,101])
set_option maxRecDepth 512
theorem gW :
  Calls prog 123 #[string d] S fun e a=>e=returned (bool (aA d))/\a=S:=by
 go_enter func123,ntmps123;go_wp2
 all_goals go_ret
 all_goals (refine⟨?_,rfl⟩;simp[aA, *])
theorem mz :
  Calls prog 124 #[string d] S fun e a=>e=returned (bool (aG d))/\a=S:=by
 go_enter func124,ntmps124;go_wp2
 all_goals go_ret
 all_goals (refine⟨?_,rfl⟩;simp[aG, *])
def ig(w:World)(ao:Xu)(L:Xt):Prop:=∀k x,L[k]?=some x->∃g,ao=some ⟨g,0,none⟩/\g<w.heap.size/\w.cell? ⟨g,k,none⟩=some (string x)
theorem aB.srcX(o:aB i z5 (aD y0)):ig i z5.ao y0:=by
 intro k x c;rcases o.Ys with ⟨_,b,_⟩ | ⟨g,d,a,e,f,-⟩
 ·have b:y0.length=0:=b;have:=(Uk.1 c).1;omega
 ·exact⟨g,a,aj e,o.cell a k (string x) (by simp[aD,dm,c])⟩
theorem PP(a:x<k.length)(h:(k[x].toList==d.toList)=true):aJ k d=true:=by
 unfold aJ;exact UW.2 ⟨k[x],Uu a,h⟩
theorem PQ(h:∀a (b:a<k.length),(k[a].toList==d.toList)=false):aJ k d=false:=by
 unfold aJ;rw[WH];intro y c;obtain⟨a,b,e⟩:=U7 c;have:=h a b;rw[e]at this;rw[this];simp
theorem kU(m:ig S I k)(x:k.length<=1000000000) :
  Calls prog 94 #[slice I k.length D,string d] S fun e u=>e=returned (bool (aJ k d))/\u=S:=by
 have p:Xr _:=m;clear m;go_enter func94,ntmps94;go_wp2
 go_loopg [5] k.length (fun g i wr=>∃a:Nat,a<=k.length/\g=k.length-a/\i=int i64 a/\Xr (∀j (b:j<k.length),j<a->(k[j].toList==d.toList)=false)/\wr=S)
 ·exact⟨0,by omega,by omega,rfl,(fun j _ h=>by omega),rfl⟩
 obtain⟨a,A,z,rfl,l,rfl⟩:=hrel;by_cases f:a<k.length
 ·obtain⟨v,rfl,s,B⟩:=p.o a k[a] (Ub f);have t:(a:Int)<k.length:=by omega
  have r:Xr ((k[a].toList==d.toList)=true->aJ k d=true):=PP k d a f;have q:Xr ((k[a].toList==d.toList)=false->∀j (b:j<k.length),j<a+1->(k[j].toList==d.toList)=false):=fun h j b w=>by
   by_cases e:j=a
   ·subst e;exact h
   ·exact l.o j b (by omega)
  generalize k[a]=y at *;cases n:(y.toList==d.toList)
  ·have c:Xr (∀j (b:j<k.length),j<a+1->(k[j].toList==d.toList)=false):=q.o n;go_wp2;go_roundg (k.length-(a+1))
   ·exact⟨a+1,by omega,rfl,by go_num,c,rfl⟩
   omega
  ·have c:Xr (aJ k d=true):=r.o n;go_wp2;go_ret;exact⟨aE c.o.symm,rfl⟩
 ·have c:Xr (aJ k d=false):=PQ k d (fun j b=>l.o j b (by omega));go_wp2;go_ret;exact⟨aE c.o.symm,rfl⟩
def tS(T:List Tk)(i:Nat):Xs:=(T.getD i gO).s
theorem jf(h:x<H.length):H[x]?=some (H.getD x gO):=by
 rw[Uc,Ub h];rfl
def eu(T:List Tk)(b:Nat):Xs×Nat:=if(io (tS T b) ⟨#[36]⟩||decide (T.length<=b+1))=true then(tS T b,b+1) else(tS T (b+1),b+2)
set_option maxRecDepth 100000
theorem IW(S:List Sm)(j:Xu)(D:Nat)(w:World)(p:ge w n H I x S j D)(K:l<H.length)(G:H.length<=100000)(L:∀i,(tS H i).size<=1073741824) :
  Calls prog 86 #[pointer (some ⟨n,0,none⟩),int i64 l] w fun e M=>e=returned (tuple #[string (eu H l).1,int i64 ((eu H l).2:Nat)])/\M=w:=by
 obtain⟨C,-,O⟩:=p.cells;obtain⟨z,rfl,J,v,-⟩:=p.t.2 l _ (jf H l K);replace v:w.cell? ⟨z,l*5,none⟩=some (string (tS H l)):=v;have r:(l:Int)<H.length:=by omega
 have s:=L l;have d:((l+1:Nat):Int)=(l:Int)+1:=by omega
 have q:((l+2:Nat):Int)=(l:Int)+2:=by omega
 obtain⟨b,g⟩:=bm (tS H l);rw[g.o]at v s;obtain⟨u,f⟩:=bm (H.length);rw[f.o]at C r G;cases k:io b ⟨#[36]⟩
 ·by_cases N:u<=l+1
  ·have c:Xr (eu H l=(b,l+1)):=(by show _=_;unfold eu;rw[g.o,k,f.o,Uf (by simp;omega)]);have m:(u:Int)<=(l:Int)+1:=(by omega);go_enter func86,ntmps86;go_wp2_with (go_at_call 121;refine(go b _ _ (by omega) (by show 1<=_;omega)).mono ?_;rintro e B ⟨rfl,a⟩;rw[a];clear a);go_ret2;exact⟨by rw[c.o];show _=Ending.returned (tuple #[string b,int i64 ((l+1:Nat):Int)]);rw[d];rfl,rfl⟩
  ·have c:Xr (eu H l=(tS H (l+1),l+2)):=(by show _=_;unfold eu;rw[g.o,k,f.o,Ud (by simp;omega)]);have m:¬(u:Int)<=(l:Int)+1:=(by omega);obtain⟨F,E,-,A,-⟩:=p.t.2 (l+1) _ (jf H (l+1) (by rw[f.o];omega));cases E
   replace A:w.cell? ⟨z,(l+1)*5,none⟩=some (string (tS H (l+1))):=A;generalize tS H (l+1)=y at *;go_enter func86,ntmps86;go_wp2_with (go_at_call 121;refine(go b _ _ (by omega) (by show 1<=_;omega)).mono ?_;rintro e B ⟨rfl,a⟩;rw[a];clear a);go_ret2;exact⟨by rw[c.o];show _=Ending.returned (tuple #[string y,int i64 ((l+2:Nat):Int)]);rw[q];rfl,rfl⟩
 ·have c:Xr (eu H l=(b,l+1)):=by show _=_;unfold eu;rw[g.o,k,Uf (by simp)]
  go_enter func86,ntmps86;go_wp2_with (go_at_call 121;refine(go b _ _ (by omega) (by show 1<=_;omega)).mono ?_;rintro e B ⟨rfl,a⟩;rw[a];clear a);go_ret2;exact⟨by rw[c.o];show _=Ending.returned (tuple #[string b,int i64 ((l+1:Nat):Int)]);rw[d];rfl,rfl⟩
def rT:Int->List Sm->Bool
 | _,[]=>true
 | o,s :: r=>if aP o s.k<0 then false else rT (aP o s.k) r
def aO(S:List Sm)(j n:Nat):Bool:=rT 0 ((S.drop j).take (n-j))
def bq(S:List Sm)(n:Nat):Int:=(S.take n).foldl (fun o s=>aP o s.k) 0
theorem vY(S:List Sm)(k:Nat)(h:k<S.length):bq S (k+1)=aP (bq S k) S[k].k:=by
 unfold bq;rw[UY h,VY];rfl
theorem EZ(c:(N.toList == [36,123])=true)(a:(N.toList == [36,125])=true):False:=by
 have b:N.toList=[36,123]:=by simpa using c
 rw[b]at a;exact absurd a (by decide)
theorem FC(S:List Sm)(j:Xu)(y:Nat)(w:World)(p:ge w n H I x S j y)(N:l<=S.length)(G:S.length<=100000) :
  Calls prog 169 #[pointer (some ⟨n,0,none⟩),int i64 l] w fun e D=>e=returned (int i64 (bq S l))/\D=w:=by
 obtain⟨-,E,J⟩:=p.cells;have v:Xr _:=p.s.2;clear p;go_enter func169,ntmps169;go_wp2
 go_loopg [5,6] l (fun g o i wr=>∃(k:Nat) (m:Int),k<=l/\g=l-k/\o=int i64 m/\i=int i64 k/\(-(k:Int)<=m/\m<=(k:Int))/\Xr (m=bq S k)/\wr=w)
 ·exact⟨0,0,by omega,rfl,rfl,rfl,by omega,rfl,rfl⟩
 obtain⟨k,m,L,K,rfl,rfl,M,r,rfl⟩:=hrel;by_cases B:k<l
 ·have d:k<S.length:=by omega
  obtain⟨F,rfl,z,-,-,-,C⟩:=v.o k S[k] (Ub d);have b:Xr _:=vY S k d;have A:(k:Int)<(l:Int):=by omega
  have u:(k:Int)<S.length:=by omega
  rw[<-r.o]at b;generalize S[k]=t at *;obtain⟨O,Q,P,q⟩:=t;simp only at C b;cases f:(q.toList == [36,123])
  ·cases c:(q.toList == [36,125])
   ·have a:Xr (m=bq S (k+1)):=(by show _=_;rw[b.o,aP,f,c];simp);go_wp2;go_roundg (l-(k+1))
    ·exact⟨k+1,m,by omega,rfl,rfl,by go_num,by omega,a,rfl⟩
    omega
   ·have a:Xr (m-1=bq S (k+1)):=(by show _=_;rw[b.o,aP,f,c];simp);go_wp2;go_roundg (l-(k+1))
    ·exact⟨k+1,m-1,by omega,rfl,by go_num,by go_num,by omega,a,rfl⟩
    omega
  ·cases c:(q.toList == [36,125])
   ·have a:Xr (m+1=bq S (k+1)):=(by show _=_;rw[b.o,aP,f,c];simp);go_wp2;go_roundg (l-(k+1))
    ·exact⟨k+1,m+1,by omega,rfl,by go_num,by go_num,by omega,a,rfl⟩
    omega
   ·exact(EZ f c).elim
 ·have e:k=l:=by omega
  subst e;go_wp2;go_ret;exact⟨T0 r.o,rfl⟩
theorem Mu(S:List Sm)(k n:Nat)(h:k<n)(a:n<=S.length):(S.drop k).take (n-k)=S[k]'(by omega) :: (S.drop (k+1)).take (n-(k+1)):=by
 rw[UB (by omega),show n-k=(n-(k+1))+1 by omega,XC]
theorem lZ(S:List Sm)(p:Xu)(C:Nat)(w:World)(q:ge w L H I x S p C)(R:n<=l)(G:l<=S.length)(O:S.length<=100000) :
  Calls prog 93 #[pointer (some ⟨L,0,none⟩),int i64 n,int i64 l] w fun e K=>e=returned (bool (aO S n l))/\K=w:=by
 obtain⟨-,M,P⟩:=q.cells;have B:Xr _:=q.s.2;clear q;go_enter func93,ntmps93;go_wp2
 go_loopg [7,8] (l-n) (fun g o i wr=>∃(k:Nat) (m:Int),(n<=k/\k<=l)/\g=l-k/\o=int i64 m/\i=int i64 k/\(0<=m/\m<=(k:Int))/\Xr (aO S n l=rT m ((S.drop k).take (l-k)))/\wr=w)
 ·exact⟨n,0,⟨by omega,by omega⟩,rfl,rfl,rfl,by omega,rfl,rfl⟩
 obtain⟨k,m,⟨E,T⟩,Q,rfl,rfl,U,b,rfl⟩:=hrel;by_cases u:k<l
 ·have r:k<S.length:=by omega
  obtain⟨N,rfl,D,-,-,-,J⟩:=B.o k S[k] (Ub r);have A:Xr _:=Mu S k l u G;rw[A.o,rT]at b;have F:(k:Int)<(l:Int):=by omega
  have y:(k:Int)<S.length:=by omega
  generalize S[k]=t at *;obtain⟨V,X,W,c⟩:=t;simp only at J b;cases j:(c.toList == [36,123])
  ·cases d:(c.toList == [36,125])
   ·have a:Xr (aO S n l=rT m ((S.drop (k+1)).take (l-(k+1)))):=by
     have f:aP m c=m:=(by unfold aP;rw[j,d];simp);have:=b.o;rw[f,Ud (by omega)]at this;exact this
    have v:¬m<0:=(by omega);go_wp2;go_roundg (l-(k+1))
    ·exact⟨k+1,m,⟨by omega,by omega⟩,rfl,rfl,by go_num,by omega,a,rfl⟩
    omega
   ·have f:aP m c=m-1:=(by unfold aP;rw[j,d];simp);rw[f]at b;by_cases z:m-1<0
    ·have a:Xr (aO S n l=false):=by
      have:=b.o;rw[Uf z]at this;exact this
     go_wp2;go_ret;exact⟨aE a.o.symm,rfl⟩
    ·have a:Xr (aO S n l=rT (m-1) ((S.drop (k+1)).take (l-(k+1)))):=by
      have:=b.o;rw[Ud z]at this;exact this
     go_wp2;go_roundg (l-(k+1))
     ·exact⟨k+1,m-1,⟨by omega,by omega⟩,rfl,by go_num,by go_num,by omega,a,rfl⟩
     omega
  ·cases d:(c.toList == [36,125])
   ·have a:Xr (aO S n l=rT (m+1) ((S.drop (k+1)).take (l-(k+1)))):=by
     have f:aP m c=m+1:=(by unfold aP;rw[j,d];simp);have:=b.o;rw[f,Ud (by omega)]at this;exact this
    have v:¬m+1<0:=(by omega);go_wp2;go_roundg (l-(k+1))
    ·exact⟨k+1,m+1,⟨by omega,by omega⟩,rfl,by go_num,by go_num,by omega,a,rfl⟩
    omega
   ·exact(EZ j d).elim
 ·have e:k=l:=by omega
  subst e;have a:Xr (aO S n k=true):=cM (by rw[b.o,U3,V4,rT]);go_wp2;go_ret;exact⟨aE a.o.symm,rfl⟩
def od(s:Xs):Bool:=(s.toList == [36,61])||(s.toList == [36,46])
def lQ:List Tk->Xt
 | []=>[]
 | t :: r=>if od t.s=true then [] else t.s :: lQ r
def bA(T:List Tk)(h:Nat):Xt:=lQ (T.drop h)
def dS(T:List Tk)(h:Nat):Prop:=∃e,h<=e/\e<T.length/\od (tS T e)=true
theorem IF(h:x<H.length):H.drop x=H.getD x gO :: H.drop (x+1):=by
 rw[UB h,Uc,Ub h];rfl
theorem JR(L:List Tk):(lQ L).length<=L.length:=by
 induction L with
 | nil=>exact Ue _
 | cons t r a=>rw[lQ];split <;> simp <;> omega
theorem l5:(bA H x).length<=H.length:=by
 have:=JR (H.drop x);rw[UX]at this;unfold bA;omega
structure zX(w wr:World)(h:Hd)(O:Xt):Prop where
 YF:aB wr h (aD O)
 far:∀k,h.Yv=some k->w.heap.size<=k
 Yu:ae [] w wr
theorem zX.nil:zX S S ⟨none,0⟩ []:=⟨Uj _ _ _ _,(by intro k a;cases a),ae.refl _ _⟩
theorem zX.Yr{b:World}{f:Xt}(a:zX i s z5 y0)(g:bJ s b z5 z6)(o:aB b z6 (aD f)):zX i b z6 f:=by
 refine⟨o,fun k c=>?_,⟨g.Yu.os.trans a.Yu.os,g.Yu.tape.trans a.Yu.tape,g.Yu.output.trans a.Yu.output,Un a.Yu.size g.Yu.size,fun k c _=>?_⟩⟩
 ·rcases g.Yv with e | ⟨q,e,d⟩
  ·exact a.far k (by rw[<-e];exact c)
  ·rw[e]at c;cases c;exact Un a.Yu.size d
 ·rw[g.Yu.block k (Ul c a.Yu.size) (fun d=>by have:=a.far _ (aR d);omega),a.Yu.block k c (by simp)]
theorem mZ{g:Array Oper}{b:List Oper}{o:Oper}{a:Act}{Q:Exit->Act->World->Prop}(y:o.guard=none)(s x:Operand)(l:o.op=Op.call { callee:=Callee.builtin Builtin.append,args:=#[s,x],argTypes:=#[61,61] })(h:Hd)(L:Xt)(t:Xs)(C:a.eval s=slice h.ao L.length h.cap)(e:aB S h (aD L))(H:L.length<=1000000)(E:a.eval x=slice (some ⟨S.heap.size,0,none⟩) 1 1)(w:∀i q,aB q i (aD (L++[t]))->bJ S q h i->wpList prog g Q b (a.put o.dst (slice i.ao (L.length+1) i.cap)) q) :
  wpList prog g Q (o :: b) a (S.alloc (.cells #[string t] 9)):=by
 obtain⟨F,z,m,n,p⟩:=UC jN;have r:ae [] S (S.alloc (.cells #[string t] 9)):=bM.alloc _;have B:(S.alloc (.cells #[string t] 9)).heap[S.heap.size]?=some (.cells #[string t] 9):=Ui _ _;refine aN _ y s x 61 l F (string ⟨#[]⟩) 16 h (aD L) underlying61 z m n p rfl UA C (e.Yh r) ⟨S.heap.size,0,none⟩ 1 1 [string t] E rfl ?_ ?_ UA (by simp only[aD];unfold maxLen;omega) (by simp only[aD];omega) ?_
 ·intro j u A;rw[bS,ah B];simpa using A
 ·intro u D;rw[Uq.1 D];rfl
 ·intro v c G f d k;rw[eI]at f;exact w ⟨some ⟨v,0,none⟩,c⟩ G f ((bJ.Yh r).trans (bJ.made d k))
theorem mA(S:List Sm)(z:Xu)(M:Nat)(w:World)(p:ge w n H I x S z M)(hj:l<S.length)(hT:H.length<=100000)(V:dS H S[l].h) :
  Calls prog 73 #[pointer (some ⟨n,0,none⟩),int i64 l] w fun e w'=>∃a,e=returned (slice a.ao (bA H S[l].h).length a.cap)/\zX w w' a (bA H S[l].h):=by
 obtain⟨gS,rfl,X,-,-,q2,-⟩:=p.s.2 l S[l] (Ub hj);generalize S[l].h=b at *;obtain⟨e,e1,N,P⟩:=V;obtain⟨R,rfl,Y,-⟩:=p.t.2 e _ (jf H e N);have F:Xr _:=p;obtain⟨E,L,hb⟩:=p.cells;have ac:(l:Int)<S.length:=by omega
 have J:Xr _:=zX.nil w;clear p;go_enter func73,ntmps73;go_wp2;clear E L q2
 go_loopg [5,6] (H.length-b) (fun g o i wr=>∃(k:Nat) (a:Hd) (O:Xt),(b<=k/\k<=e)/\g=H.length-k/\o=slice a.ao O.length a.cap/\i=int i64 k/\O.length<=k/\Xr (O++lQ (H.drop k)=bA H b)/\Xr (zX w wr a O))
 ·exact⟨b,⟨none,0⟩,[],⟨by omega,by omega⟩,rfl,rfl,rfl,UF _,rfl,J⟩
 obtain⟨k,a,O,⟨ad,af⟩,hg,rfl,rfl,hO,c,m⟩:=hrel;have r:k<H.length:=by omega
 have f:Xr _:=ge.Yh F.o m.o.Yu;obtain⟨E,-,W⟩:=f.o.cells;obtain⟨T,Q,Z,D,-⟩:=f.o.t.2 k _ (jf H k r);cases Q
 replace D:wr.cell? ⟨R,k*5,none⟩=some (string (tS H k)):=D;have ai:(k:Int)<H.length:=by omega
 have G:Xr _:=IF H k r;rw[G.o,lQ]at c;have c:Xr (O++(if od (tS H k)=true then [] else tS H k :: lQ (H.drop (k+1)))=bA H b):=c.o;have j:Xr (k=e->od (tS H k)=true):=fun h=>by rw[h];exact P
 obtain⟨v,K⟩:=bm (tS H k);rw[K.o]at D c j;have C:=m.o.YF;obtain⟨al,Hn⟩:=bm (H.length);cases A:(v.toList == [36,61])
 ·cases B:(v.toList == [36,46])
  ·have ag:k<e:=by
    have:¬k=e:=fun h=>by have:=j.o h;unfold od at this;rw[A,B]at this;cases this
    omega
   have d:Xr ((O++[v])++lQ (H.drop (k+1))=bA H b):=by
    have:=c.o;rw[Ud (by unfold od;rw[A,B];simp)]at this;show _=_;rw[<-this];simp
   go_wp2_with (at_builtin;refine mZ _ rfl (.tmp 37) (.tmp 46) rfl a O v rfl C (by omega) rfl ?_;intro U w5 u q;have y:Xr _:=m.o.Yr q u;clear u q);go_roundg (H.length-(k+1))
   ·exact⟨k+1,U,O++[v],⟨by omega,by omega⟩,rfl,by simp,by go_num,by simp;omega,d,y⟩
   omega
  ·have d:Xr (bA H b=O):=by
    have:=c.o;rw[Uf (by unfold od;rw[B];simp)]at this;show _=_;rw[<-this];simp
   go_wp2;go_ret;exact⟨a,by rw[d.o];rfl,by rw[d.o];exact m.o⟩
 ·have d:Xr (bA H b=O):=by
   have:=c.o;rw[Uf (by unfold od;rw[A];simp)]at this;show _=_;rw[<-this];simp
  go_wp2;go_ret;exact⟨a,by rw[d.o];rfl,by rw[d.o];exact m.o⟩
def bD(T:List Tk)(s:Sm):Xs:=if(aA s.k||aG s.k)=true then tS T s.a else⟨#[]⟩
theorem pj(S:List Sm)(m:Xu)(A:Nat)(w:World)(i:ge w n H I x S m A)(F:l<S.length)(u:S[l].a<H.length) :
  Calls prog 88 #[pointer (some ⟨n,0,none⟩),int i64 l] w fun e L=>e=returned (string (bD H S[l]))/\ae [] w L:=by
 obtain⟨O,rfl,D,J,-,-,K⟩:=i.s.2 l S[l] (Ub F);obtain⟨B,rfl,E,j,-⟩:=i.t.2 S[l].a _ (jf H _ u);have f:Xr (bD H S[l]=if(aA S[l].k||aG S[l].k)=true then tS H S[l].a else⟨#[]⟩):=rfl;replace j:w.cell? ⟨B,S[l].a*5,none⟩=some (string (tS H S[l].a)):=j;generalize bD H S[l]=R at *;generalize S[l]=s at *;obtain⟨q,T,Q,c⟩:=s;simp only at J K j f u;obtain⟨y,z⟩:=bm (tS H q);rw[z.o]at j f;obtain⟨M,N,P⟩:=i.cells;have G:(l:Int)<S.length:=by omega
 have C:(q:Int)<H.length:=by omega
 have v:(0:Int)<=(q:Int):=by omega
 clear i;cases p:aA c
 ·cases r:aG c
  ·have d:Xr (R=⟨#[]⟩):=(by show _=_;rw[f.o,p,r];rfl);go_enter func88,ntmps88;go_wp2_with (first | (go_at_call 123;refine(gW c _).mono ?_;rintro e g ⟨rfl,b⟩;rw[b];clear b) | (go_at_call 124;refine(mz c _).mono ?_;rintro e g ⟨rfl,b⟩;rw[b];clear b));go_ret;exact⟨by rw[d.o];rfl,ae.refl _ _⟩
  ·have d:Xr (R=y):=(by show _=_;rw[f.o,p,r];rfl);go_enter func88,ntmps88;(go_upto_region 4 with (first | (go_at_call 123;refine(gW c _).mono ?_;rintro e g ⟨rfl,b⟩;rw[b];clear b) | (go_at_call 124;refine(mz c _).mono ?_;rintro e g ⟨rfl,b⟩;rw[b];clear b)));go_region
   all_goals
    go_wp2;go_ret;exact⟨by rw[d.o];rfl,(ae.refl [] w).drew⟩
 ·have d:Xr (R=y):=by show _=_;rw[f.o,p];rfl
  go_enter func88,ntmps88;go_upto_region 4 with (first | (go_at_call 123;refine(gW c _).mono ?_;rintro e g ⟨rfl,b⟩;rw[b];clear b) | (go_at_call 124;refine(mz c _).mono ?_;rintro e g ⟨rfl,b⟩;rw[b];clear b))
  go_region
  all_goals
   go_wp2;go_ret;exact⟨by rw[d.o];rfl,(ae.refl [] w).drew⟩
def TP:Sm:=⟨0,0,0,⟨#[]⟩⟩
def aq(S:List Sm)(j:Nat):Sm:=S.getD j TP
theorem bX(S:List Sm)(j:Nat)(h:j<S.length):S[j]'h=aq S j:=by
 unfold aq;rw[Uc,Ub h];rfl
def o8(T:List Tk)(S:List Sm)(key x:Xs)(n:Nat)(act:Bool)(j:Nat):Bool:=((aq S j).k.toList==key.toList)&&(aJ (bA T (aq S j).h) x&&(aO S j n || !act))
def jL(T:List Tk)(S:List Sm)(key x:Xs)(n:Nat)(act:Bool):Bool:=(List.range n).any (o8 T S key x n act)
theorem fc{p:Nat->Bool}(h:∀j,j<y->p j=false)(a:p y=false):∀j,j<y+1->p j=false:=fun j b=>by
 by_cases e:j=y
 ·rw[e];exact a
 ·exact h j (by omega)
theorem pN(b:Bool)(T:List Tk)(t:Xu)(N:Nat)(S:List Sm)(K:Xu)(M:Nat)(w:World)(U:ge w L T t N S K M)(hn:n<=S.length)(hS:S.length<=100000)(hT:T.length<=100000)(hE:∀j,j<n->((aq S j).k.toList==o.toList)=true->dS T (aq S j).h) :
  Calls prog 213 #[pointer (some ⟨L,0,none⟩),string o,string d,int i64 n,bool b] w fun e D=>e=returned (bool (jL T S o d n b))/\ae [] w D:=by
 have H:Xr _:=U;clear U;go_enter func213,ntmps213;go_wp2
 go_loopg [11] n (fun g i wr=>∃k:Nat,k<=n/\g=n-k/\i=int i64 k/\Xr (∀j,j<k->o8 T S o d n b j=false)/\Xr (ae [] w wr))
 ·exact⟨0,by omega,rfl,rfl,(fun j hj=>by omega),ae.refl _ _⟩
 obtain⟨k,hk,hg,rfl,E,C⟩:=hrel;by_cases u:k<n
 ·have p:k<S.length:=by omega
  have z:Xr _:=ge.Yh H.o C.o;obtain⟨-,Z,hb⟩:=z.o.cells;obtain⟨gs,rfl,ad,-,-,-,q3⟩:=z.o.s.2 k S[k] (Ub p);have af:(k:Int)<(n:Int):=by omega
  have V:(k:Int)<S.length:=by omega
  have r:Xr (o8 T S o d n b k=((S[k].k.toList==o.toList)&&(aJ (bA T S[k].h) d&&(aO S k n || !b)))):=cM (by unfold o8;rw[bX S k p]);have A:Xr ((S[k].k.toList==o.toList)=true->dS T S[k].h):=by have:=hE k u;rw[<-bX S k p]at this;exact this
  have G:Xr ((S[k].k.toList==o.toList)=true->∀m,ae [] w m->Calls prog 73 #[pointer (some ⟨L,0,none⟩),int i64 k] m fun e D=>∃O,e=returned (slice O.ao (bA T S[k].h).length O.cap)/\zX m D O (bA T S[k].h)):=fun h m P=>mA L k T t N S _ M m (ge.Yh H.o P) p hT (A.o h);have X:=l5 T S[k].h;have y:Xr (∀m,ae [] w m->Calls prog 93 #[pointer (some ⟨L,0,none⟩),int i64 k,int i64 n] m fun e D=>e=returned (bool (aO S k n))/\D=m):=fun m P=>lZ L k n T t N S _ M m (ge.Yh H.o P) (by omega) hn hS;clear A;generalize bA T S[k].h=B at *;generalize S[k].k=sk at *;obtain⟨Y,I⟩:=bm (aO S k n);rw[I.o]at r y;cases v:(sk.toList==o.toList)
  ·have l:Xr _:=fc E.o (by rw[r.o,v];rfl);go_wp2;go_roundg (n-(k+1))
   ·exact⟨k+1,by omega,rfl,by go_num,l,C⟩
   omega
  ·have F:Xr _:=G.o v;(go_upto_region 6 with (go_at_call 73;refine(F.o _ (by exact C.o)).mono ?_;rintro e W ⟨R,rfl,Q⟩));have f:Xr _:=C.o.trans Q.Yu;have c:Xr _:=(kU B R.ao R.cap d W Q.YF.srcX (by omega));clear Q Z q3;obtain⟨hs,J⟩:=bm (aJ B d);rw[J.o]at c r;cases hs
   ·have l:Xr _:=fc E.o (by rw[r.o,v];rfl);go_wp2_with (go_at_call 94;refine Ug c.o ?_;rintro e x ⟨rfl,a⟩;rw[a];clear a);go_roundg (n-(k+1))
    ·exact⟨k+1,by omega,rfl,by go_num,l,f⟩
    omega
   ·have q:Xr _:=y.o W f.o;cases Y
    ·cases b
     ·have l:Xr (jL T S o d n false=true):=nh k u (by rw[r.o,v];rfl);go_wp2_with (first | (go_at_call 94;refine Ug c.o ?_;rintro e x ⟨rfl,a⟩;rw[a];clear a) | (go_at_call 93;refine Ug q.o ?_;rintro e x ⟨rfl,a⟩;rw[a];clear a));go_ret;exact⟨aE l.o.symm,f.o⟩
     ·have l:Xr _:=fc E.o (by rw[r.o,v];rfl);go_wp2_with (first | (go_at_call 94;refine Ug c.o ?_;rintro e x ⟨rfl,a⟩;rw[a];clear a) | (go_at_call 93;refine Ug q.o ?_;rintro e x ⟨rfl,a⟩;rw[a];clear a));go_roundg (n-(k+1))
      ·exact⟨k+1,by omega,rfl,by go_num,l,f⟩
      omega
    ·have l:Xr (jL T S o d n b=true):=nh k u (by rw[r.o,v];simp);go_wp2_with (first | (go_at_call 94;refine Ug c.o ?_;rintro e x ⟨rfl,a⟩;rw[a];clear a) | (go_at_call 93;refine Ug q.o ?_;rintro e x ⟨rfl,a⟩;rw[a];clear a));go_ret;exact⟨aE l.o.symm,f.o⟩
 ·have l:Xr (jL T S o d n b=false):=uT (fun j hj=>E.o j (by omega));go_wp2;go_ret;exact⟨aE l.o.symm,C.o⟩
def wK(T:List Tk)(S:List Sm)(n:Nat)(key:List UInt8):Prop:=∀j,j<n->((aq S j).k.toList==key)=true->dS T (aq S j).h
theorem pk:(⟨#[36,99]⟩:Xs).toList=[36,99]/\(⟨#[36,118]⟩:Xs).toList=[36,118]:=by decide +kernel
def eO(T:List Tk)(S:List Sm)(x:Xs)(n:Nat):Bool:=jL T S ⟨#[36,99]⟩ x n false
def iI(T:List Tk)(S:List Sm)(x:Xs)(n:Nat):Bool:=jL T S ⟨#[36,118]⟩ x n true
set_option maxRecDepth 512
theorem uW(S:List Sm)(a:Xu)(b:Nat)(w:World)(d:ge w L H I x S a b)(j:n<=S.length)(g:S.length<=100000)(i:H.length<=100000)(f:wK H S n [36,99]) :
  Calls prog 173 #[pointer (some ⟨L,0,none⟩),string o,int i64 n] w fun e l=>e=returned (bool (eO H S o n))/\ae [] w l:=by
 have c:Xr _:=(pN L n ⟨#[36,99]⟩ o false H I x S a b w d j g i (by rw[pk.1];exact f));go_enter func173,ntmps173;go_wp2_with fail;refine Ug c.o ?_;rintro e m ⟨rfl,k⟩;go_wp2;go_ret;exact⟨rfl,k⟩
theorem CD(S:List Sm)(a:Xu)(b:Nat)(w:World)(d:ge w L H I x S a b)(j:n<=S.length)(g:S.length<=100000)(i:H.length<=100000)(f:wK H S n [36,118]) :
  Calls prog 174 #[pointer (some ⟨L,0,none⟩),string o,int i64 n] w fun e l=>e=returned (bool (iI H S o n))/\ae [] w l:=by
 have c:Xr _:=(pN L n ⟨#[36,118]⟩ o true H I x S a b w d j g i (by rw[pk.2];exact f));go_enter func174,ntmps174;go_wp2_with fail;refine Ug c.o ?_;rintro e m ⟨rfl,k⟩;go_wp2;go_ret;exact⟨rfl,k⟩
def mU(T:List Tk)(S:List Sm)(x:Xs)(j:Nat):Bool:=!((bD T (aq S j)).toList == [])&&((bD T (aq S j)).toList==x.toList)
def bB(T:List Tk)(S:List Sm)(x:Xs)(n:Nat):Int:=match (List.range n).find? (mU T S x) with
 | some j=>j
 | none=>-1
theorem ui{S:List Sm}(c:z0<y)(h:mU v S N z0=true)(a:∀j,j<z0->mU v S N j=false):bB v S N y=z0:=by
 have e:(List.range y).find? (mU v S N)=some z0:=by
  rw[Vp];exact⟨h,Up.2 c,fun j b=>by rw[a j b];rfl⟩
 unfold bB;rw[e]
theorem DN{S:List Sm}(a:∀j,j<y->mU v S N j=false):bB v S N y=-1:=by
 have e:(List.range y).find? (mU v S N)=none:=by
  rw[U8];intro j b;rw[a j (Up.1 b)];simp
 unfold bB;rw[e]
set_option maxRecDepth 100000
theorem pR(S:List Sm)(p:Xu)(u:Nat)(w:World)(z:ge w L H I x S p u)(M:n<=S.length)(G:S.length<=100000)(C:∀j,j<n->(aq S j).a<H.length) :
  Calls prog 172 #[pointer (some ⟨L,0,none⟩),string o,int i64 n] w fun e F=>e=returned (int i64 (bB H S o n))/\ae [] w F:=by
 have B:Xr _:=z;clear z;go_enter func172,ntmps172;go_wp2
 go_loopg [7] n (fun g i wr=>∃k:Nat,k<=n/\g=n-k/\i=int i64 k/\Xr (∀j,j<k->mU H S o j=false)/\Xr (ae [] w wr))
 ·exact⟨0,by omega,rfl,rfl,(fun j D=>by omega),ae.refl _ _⟩
 obtain⟨k,K,J,rfl,s,m⟩:=hrel;by_cases q:k<n
 ·have f:k<S.length:=by omega
  have E:(k:Int)<(n:Int):=by omega
  have t:Xr (mU H S o k=(!((bD H S[k]).toList == [])&&((bD H S[k]).toList==o.toList))):=cM (by unfold mU;rw[bX S k f]);have c:Xr _:=(pj L k H I x S p u wr (ge.Yh B.o m.o) f (by rw[bX S k f];exact C k q));generalize bD H S[k]=l at *;cases v:(l.toList == [])
  ·cases y:(l.toList==o.toList)
   ·have d:Xr _:=fc s.o (by rw[t.o,y];simp);go_wp2_with (go_at_call 88;refine Ug c.o ?_;rintro e A ⟨rfl,r⟩;have b:Xr _:=m.o.trans r);go_roundg (n-(k+1))
    ·exact⟨k+1,by omega,rfl,by go_num,d,b⟩
    omega
   ·have d:Xr (bB H S o n=k):=ui q (by rw[t.o,v,y];rfl) s.o;go_wp2_with (go_at_call 88;refine Ug c.o ?_;rintro e A ⟨rfl,r⟩;have b:Xr _:=m.o.trans r);go_ret;exact⟨T0 d.o.symm,b.o⟩
  ·have d:Xr _:=fc s.o (by rw[t.o,v];rfl);go_wp2_with (go_at_call 88;refine Ug c.o ?_;rintro e A ⟨rfl,r⟩;have b:Xr _:=m.o.trans r);go_roundg (n-(k+1))
   ·exact⟨k+1,by omega,rfl,by go_num,d,b⟩
   omega
 ·have d:Xr (bB H S o n=-1):=DN (fun j D=>s.o j (by omega));go_wp2;go_ret;exact⟨T0 d.o.symm,m.o⟩
end Go.Proofs.YtnbhnocdhbcbcaaGreat
