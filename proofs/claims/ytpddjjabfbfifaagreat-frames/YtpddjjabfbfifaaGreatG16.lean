import Derived.Test.YtpddjjabfbfifaaGreatG15
namespace Go.Proofs.YtpddjjabfbfifaaGreat
open Go.RowKit Tryz
set_option maxRecDepth 100000
set_option maxHeartbeats 40000000
variable{f x:World}{v:Sl}{T z7:Hd}{n zb:Nat}{I:List Sl}{i:List ByteArray}{y6:List Nat}{N g z6:Value}{o:jS}{D:Fs}{y7:Bool}(y l H:Nat)(b:List Tk)(d:Option Addr)(a:Nat)(w:List Sm)(M:List ByteArray)(L:List (List ByteArray))(k:Option Addr)(S:Nat)
def LH(T:List Tk)(S:List Sm)(hs:List Nat)(M:List (List ByteArray))(V:List ByteArray)(B:List (List ByteArray))(i:Nat):Int :=
 if GI S hs i=true then(if(((M.getD i []).getD 0 ⟨#[]⟩).toList==((cI T S (hs.getD i 0)).getD 0 ⟨#[]⟩).toList)=true then 0 else 7)
 else if oc (iU V B (cI T S (hs.getD i 0))) (M.getD i [])=true then 0 else 8
def OE(T:List Tk)(S:List Sm)(a:Nat)(V:List ByteArray)(B:List (List ByteArray))(p:ByteArray×ByteArray):Bool:=tL T S a (iU V B [p.1]) (iU V B [p.2])
def pP(T:List Tk)(S:List Sm)(a c:Nat)(hs:List Nat)(M:List (List ByteArray))(V:List ByteArray)(B:List (List ByteArray)):Int :=
 if(dJ (LH T S hs M V B) hs.length==0)=false then dJ (LH T S hs M V B) hs.length else if(fH T S c).all (OE T S a V B)=true then 0 else 9
theorem pR(x:ByteArray)(N:Nat)(b:∀l∈L,l.length<=N)(a:1<=N):(iU M L [x]).length<=N:=by
 unfold iU;rw[RI,List.flatMap_nil,Rl];unfold LZ
 split
 ·rw[QQ]
  cases h:L[wt M x]? with
  | none=>simp
  | some l=>exact b l (R4 h)
 ·simpa using a
theorem NZ(c:∀l∈L,l.length<=S)(a:1<=S)(e:List ByteArray):(iU M L e).length<=S*e.length:=by
 induction e with
 | nil=>exact Ro _
 | cons x e f =>
  have d:=pR M L x S c a;have b:iU M L (x :: e)=iU M L [x]++iU M L e:=by unfold iU;simp
  rw[b,Q0,Rp,Nat.mul_succ];omega
theorem yX(V:List ByteArray)(a:V.length<=10000)(k:Nat):(lg b w S V k).length<=10000*k:=by
 induction k with
 | zero=>simp[lg]
 | succ k c =>
  have:=EY b w S V k V.length;rw[wO,Q0];omega
theorem Jd(d:S<=10000):(fH b w S).length<=100000000:=by
 have a:=kj b w S
 have c:(fO b w (bW b w S) (bW b w S).length).length<=(bW b w S).length:=by
  unfold fO;rw[Ri,RK];exact Sc _ _
 have:=yX b w S (fO b w (bW b w S) (bW b w S).length) (by omega) (fO b w (bW b w S) (bW b w S).length).length;unfold fH;omega
theorem IQ(f:List Nat)(ch:Option Addr)(cH:Nat)(A:List Sl)(be:Option Addr)(cA:Nat)(V:List ByteArray)(K:Option Addr)(cV:Nat)(B:List Sl)(J:Option Addr)(cB:Nat)(D:World)(hD:fz D y b d a w k S)(ok:nK b w l)(dp:H<l)(ds:bS (au w H).k=false)(hH:qD D ch f)(F:∀j∈f,j<l/\bS (au w j).k=false)(eb:f.length<=10000)(hA:cm D be 1 Ff A)(b6:pa D A)(br:∀s∈A,ge D s.ao s.L)(eh:f.length<=A.length)(d2:A.length<=100000)(hF:∀i,i<f.length->GI w f i=true->1<(cI b w (f.getD i 0)).length)(hN:∀s∈A,0<s.L.length/\s.L.length<=10000)(hV:ge D K V)(hB:cm D J 1 Ff B)(cf:pa D B)(ck:V.length<=B.length)(c5:B.length<=100000)(a5:∀s∈B,s.L.length<=10000) :
  Calls prog 178 #[.pointer (some ⟨y,0,none⟩),.int .i64 l,.int .i64 H,.slice ch f.length cH,.slice be A.length cA,.agg #[.slice K V.length cV,.slice J B.length cB]] D fun e u=>e=.returned (.int .i64 (pP b w l H f (A.map (·.L)) V (B.map (·.L))))/\ab [] D u:=by
 obtain⟨W,HW⟩:∃W,Hid (D.alloc (.cells #[.slice K V.length cV,.slice J B.length cB] 271)=W):=⟨_,rfl⟩
 have BW:W.heap[D.heap.size]?=some (.cells #[.slice K V.length cV,.slice J B.length cB] 271 (0,0)):=by rw[<-HW.out];exact QS _ _
 have t:Hid (ab [] D W):=by show ab [] D W;rw[<-HW.out];exact(ab.refl [] _).alloc _
 have hn:=ok.ok.m;have d5:=ok.sm;have d3:=ok.tm;have b5:=hI BW;have HD:=hI (hD.Vb t.out);have az:=hI ok;have HH:=hI (hH.Vb t.out);have cs:=hI F;have HA:=hI (hA.Vb t.out);have d9:=hI (b6.Vb t.out);have c7:Hid (∀s∈A,∀wx,ab [] D wx->ge wx s.ao s.L):=fun s f wx kx=>(br s f).Vb kx
 have HF:=hI hF;have HN:=hI hN;obtain⟨M,bs⟩:∃M,Hid (A.map (·.L)=M):=⟨_,rfl⟩
 obtain⟨o,a3⟩:∃o,Hid (B.map (·.L)=o):=⟨_,rfl⟩
 have a2:Hid (∀(E:List ByteArray) (ac:Option Addr) (cE:Nat) (wx:World),ab [] D wx->ge wx ac E->E.length<=10000->Calls prog 179 #[.agg #[.slice K V.length cV,.slice J B.length cB],.slice ac E.length cE] wx fun e u=>∃h',e=.returned (.slice h'.ao (iU V o E).length h'.cap)/\gw wx u h' (aB (iU V o E))):=fun E ac cE wx kx hE hl=>by rw[<-a3.out];exact CN V K cV B J cB E ac cE wx (hV.Vb kx) (hB.Vb kx) (cf.Vb kx) ck c5 hE hl a5
 have U:Hid (∀dz∈o,dz.length<=10000):=fun dz hl=>by
  rw[<-a3.out]at hl;obtain⟨s,f,rfl⟩:=Si.1 hl;exact a5 s f
 have cq:Hid (∀c,c<A.length->M.getD c []=(fQ A c).L):=fun c hk=>by rw[<-bs.out];exact wF A c hk
 rw[bs.out,a3.out];have co:=hI (wI y H b d a w k S);have cz:Hid (cU b (au w H).h):=ok.e H dp ds;have HR:Hid (pP b w l H f M V o=if(dJ (LH b w f M V o) f.length==0)=false then dJ (LH b w f M V o) f.length else if(fH b w H).all (OE b w l V o)=true then 0 else 9):=rfl;clear hD ok hH F hA b6 br hF hN hV hB cf a5;go_enter func178,ntmps178
 go_upto_region 1 with fail
 rw[HW.out];go_wp2
 go_loopg [13] f.length (fun g i wr=>∃c:Nat,c<=f.length/\g=f.length-c/\i=.int .i64 c/\Hid (dJ (LH b w f M V o) c=0)/\Hid (ab [] W wr))
 case atStart=>exact⟨0,by omega,rfl,rfl,rfl,ab.refl _ _⟩
 case round =>
  obtain⟨c,hk,hg,rfl,HZ,HK⟩:=hrel;have ea:=hI (t.out.trans HK.out)
  by_cases F:c<f.length
  ·have df:(c:Int)<(f.length:Int):=by omega
   obtain⟨c0,bx⟩:=cs.out f[c] (Rb F);have Z:f[c]<w.length:=by omega
   have ba:f.getD c 0=f[c]:=by rw[QQ,QP F];rfl
   obtain⟨gH,rfl,cL,c3⟩:=(qD.Vb HH.out HK.out) c f[c] (QP F);have aS:Hid (Calls prog 72 #[.pointer (some ⟨y,0,none⟩),.int .i64 ((f[c]:Nat):Int)] wr fun e u=>∃h',e=.returned (.slice h'.ao (bu b w[f[c]].h).length h'.cap)/\vj wr u h' (bu b w[f[c]].h)):=kD y f[c] b d a w _ S wr (fz.Vb HD.out HK.out) Z (by omega) (by rw[bM w f[c] Z];exact az.out.e f[c] c0 bx);have bo:Hid (bu b w[f[c]].h=cI b w (f.getD c 0)):=by show _=_;unfold cI;rw[ba,bM w f[c] Z]
   have ca:=kg b w[f[c]].h;rw[bo.out]at aS ca;have bl:Hid (GI w f c=(w[f[c]].k.toList == [36,102])):=by show _=_;unfold GI;rw[ba,bM w f[c] Z]
   have bd:=hI (HF.out c F)
   have cF:Hid (∀u:World,ab [] W u->u.cell? ⟨gH,c,none⟩=some (.int .i64 ((f[c]:Nat):Int))/\gH<u.heap.size/\∃gs,k=some ⟨gs,0,none⟩/\gs<u.heap.size/\u.cell? ⟨y,1,none⟩=some (.slice k w.length S)/\y<u.heap.size/\u.cell? ⟨gs,f[c]*4+3,none⟩=some (.string w[f[c]].k)):=fun u kw=>by
    obtain⟨g2,e2,h2,c2⟩:=(qD.Vb HH.out kw) c f[c] (QP F)
    cases e2
    have hd:=fz.Vb HD.out kw;obtain⟨-,s0,hb⟩:=hd.cells;obtain⟨gs,e3,ai,-,-,-,q3⟩:=hd.s.2 f[c] w[f[c]] (QP Z);exact⟨c2,h2,gs,e3,ai,s0,hb,q3⟩
   have ag:c<A.length:=by omega
   have n:Hid (LH b w f M V o c=if GI w f c=true then(if(((fQ A c).L.getD 0 ⟨#[]⟩).toList==((cI b w (f.getD c 0)).getD 0 ⟨#[]⟩).toList)=true then 0 else 7) else if oc (iU V o (cI b w (f.getD c 0))) (fQ A c).L=true then 0 else 8):=by show _=_;unfold LH;rw[cq.out c ag]
   have G:Hid ((LH b w f M V o c==0)=false->pP b w l H f M V o=LH b w f M V o c):=fun h=>by
    have:=ou HZ.out h F;rw[HR.out,this,QW h]
   have af:Hid (LH b w f M V o c=0->dJ (LH b w f M V o) (c+1)=0):=fun h=>by rw[dJ,HZ.out];exact h
   rw[bl.out]at n bd;clear bo bl ba bx;have d4:((f[c]:Nat):Int)<(w.length:Int):=by omega
   have ef:(0:Int)<=((f[c]:Nat):Int):=by omega
   obtain⟨X,HX⟩:∃X,Hid (cI b w (f.getD c 0)=X):=⟨_,rfl⟩
   rw[HX.out]at aS ca n bd;generalize w[f[c]].k=sk at *;generalize f[c]=j at *
   go_upto_region 5 with (go_at_call 72;refine QU aS.out ?_;rintro e w1 ⟨h1,rfl,x1⟩)
   have a4:=hI (HK.out.trans x1.kept);have bj:=hI x1.own.srcX;obtain⟨bT,an,gs,rfl,ai,s0,bk,q3⟩:=cF.out w1 a4.out;obtain⟨a1,c1⟩:=h1;clear c3 cL x1;have bp:=HN.out (fQ A c) (jK A c ag);have T:=hI (c7.out (fQ A c) (jK A c ag));have bc:Hid (∀u:World,ab [] W u->∃gA,be=some ⟨gA,0,none⟩/\gA<u.heap.size/\u.cell? ⟨gA,c,none⟩=some (.slice (fQ A c).ao (fQ A c).L.length (fQ A c).cap)):=fun u kw=>cm.sl (cm.Vb HA.out kw) c ag
   have dT:(c:Int)<(A.length:Int):=by omega
   generalize fQ A c=s at *;obtain⟨cl,cb,sL⟩:=s;simp only at T bc bp n;obtain⟨c6,d1⟩:=bp
   cases hf:(sk.toList == [36,102])
   ·rw[hf,QT (by simp)]at n
    go_quiet (fail)
    obtain⟨P,O⟩:∃P,Hid (w1.drewN nq=P):=⟨_,rfl⟩
    go_upto_region 8 with fail
    rw[O.out];have k2:ab [] w1 P:=by rw[<-O.out];exact(ab.refl [] w1).drewN nq
    have r:=hI (a4.out.trans k2);have BR:=r.out.get b5.out (by simp);have r0:P.cell? ⟨D.heap.size,0,none⟩=some (.slice K V.length cV):=by rw[aa BR];rfl
    have r1:P.cell? ⟨D.heap.size,1,none⟩=some (.slice J B.length cB):=by rw[aa BR];rfl
    have c4:=ae BR;have R:=hI (a2.out X a1 c1 P (t.out.trans r.out) (ge.Vb bj.out k2) (by omega));have cj:=NZ V o 10000 U.out (by omega) X;obtain⟨Y,HY⟩:∃Y,Hid (iU V o X=Y):=⟨_,rfl⟩
    rw[HY.out]at R n cj;clear bT an ai s0 bk q3 O
    go_upto_region 9 with (go_at_call 179;refine QU R.out ?_;rintro e w3 ⟨h3,rfl,x3⟩)
    have I:=hI (r.out.trans x3.kept);obtain⟨gA,rfl,db,dl⟩:=bc.out w3 I.out;have aT:=hI (C0 Y sL h3.ao cl h3.cap cb w3 x3.own.srcX (T.out w3 (t.out.trans I.out)) (by omega));obtain⟨sm,c8⟩:∃sm,Hid (oc Y sL=sm):=⟨_,rfl⟩
    rw[c8.out]at aT n;clear x3 r0 r1 c4
    cases sm
    ·rw[QT (by simp)]at n
     have Q:=hI (G.out (by rw[n.out];rfl));rw[n.out]at Q;go_wp2_with (go_at_call 133;refine QU aT.out ?_;rintro e w4 ⟨rfl,k4⟩;have C:=hI (I.out.trans k4);clear k4);go_ret;exact⟨QN Q.out.symm,t.out.trans C.out⟩
    ·rw[QW rfl]at n
     have Q:=hI (af.out n.out);go_wp2_with (go_at_call 133;refine QU aT.out ?_;rintro e w4 ⟨rfl,k4⟩;have C:=hI (I.out.trans k4);clear k4)
     go_roundg (f.length-(c+1))
     case measure=>omega
     case rel=>exact⟨c+1,by omega,rfl,by go_num,Q,C⟩
   ·rw[hf,QW rfl]at n
    have d7:=bd.out hf;obtain⟨gX,eX,b0,cX⟩:=bj.out 0 _ (mm X 0 (by omega));replace eX:a1=some ⟨gX,0,none⟩:=eX;subst eX
    go_quiet (fail)
    obtain⟨P,O⟩:∃P,Hid (w1.drewN nq=P):=⟨_,rfl⟩
    go_upto_region 6 with fail
    rw[O.out];have k2:ab [] w1 P:=by rw[<-O.out];exact(ab.refl [] w1).drewN nq
    have r:=hI (a4.out.trans k2);obtain⟨gA,rfl,db,dl⟩:=bc.out P r.out;obtain⟨g0,es,ej,d0⟩:=T.out P (t.out.trans r.out) 0 _ (mm sL 0 c6);subst es;have ei:P.cell? ⟨gX,0,none⟩=some (.string (X.getD 0 ⟨#[]⟩)):=by rw[Q6 (k2.block gX b0 (by simp))];exact cX
    have dv:=QX b0 k2.size;have eg:(0:Int)<(X.length:Int):=by omega
    have dt:(0:Int)<(sL.length:Int):=by omega
    generalize sL.getD 0 ⟨#[]⟩=x at *;generalize X.getD 0 ⟨#[]⟩=ad at *;clear bT an ai s0 bk q3 O cX k2 nq
    cases bz:(x.toList==ad.toList)
    ·rw[bz,QT (by simp)]at n
     have Q:=hI (G.out (by rw[n.out];rfl));rw[n.out]at Q
     go_quiet (fail)
     have C:=hI (r.out.trans ((ab.refl [] P).drewN nq));go_wp2;go_ret;exact⟨QN Q.out.symm,t.out.trans C.out⟩
    ·rw[bz,QW rfl]at n
     have Q:=hI (af.out n.out)
     go_quiet (fail)
     have C:=hI (r.out.trans ((ab.refl [] P).drewN nq));go_wp2
     go_roundg (f.length-(c+1))
     case measure=>omega
     case rel=>exact⟨c+1,by omega,rfl,by go_num,Q,C⟩
  ·have e:c=f.length:=by omega
   subst e;rw[HZ.out,QT (by decide)]at HR;have df:¬(f.length:Int)<(f.length:Int):=by omega
   have R:=hI (co.out wr (fz.Vb HD.out HK.out) (az.out.mono (by omega)) (by omega) cz.out);obtain⟨v,b4⟩:∃v,Hid (fH b w H=v):=⟨_,rfl⟩
   rw[b4.out]at R HR
   go_upto_region 13 with (go_at_call 64;refine QU R.out ?_;rintro e w2 ⟨h2,rfl,x2⟩)
   have r:=hI (HK.out.trans x2.kept);have dk:=hI (x2.own.srcG LY);have d6:v.length<=100000000:=by rw[<-b4.out];exact Jd b w H (by omega)
   obtain⟨ap,cp⟩:=h2;clear x2 R HZ;go_wp2
   go_loopg [18] v.length (fun g i wr=>∃m:Nat,m<=v.length/\g=v.length-m/\i=.int .i64 m/\Hid (∀q (N:q<v.length),q<m->OE b w l V o v[q]=true)/\Hid (ab [] w2 wr))
   case atStart=>exact⟨0,by omega,rfl,rfl,(fun q _ h=>by omega),ab.refl _ _⟩
   case round =>
    obtain⟨m,hm,ec,rfl,b2,I⟩:=hrel;have C:=hI (r.out.trans I.out)
    by_cases al:m<v.length
    ·have cR:(m:Int)<(v.length:Int):=by omega
     obtain⟨gP,eP,ax,cP⟩:=dk.out m v[m] (QP al);subst eP
     have cc:Hid (∀u:World,ab [] w2 u->u.cell? ⟨gP,m*2,none⟩=some (.string v[m].1)/\u.cell? ⟨gP,m*2+1,none⟩=some (.string v[m].2)/\gP<u.heap.size/\u.cell? ⟨D.heap.size,0,none⟩=some (.slice K V.length cV)/\u.cell? ⟨D.heap.size,1,none⟩=some (.slice J B.length cB)/\D.heap.size<u.heap.size):=fun u kw=>by
      have BR:=(r.out.trans kw).get b5.out (by simp);exact⟨by rw[Q6 (kw.block gP ax (by simp))];exact cP 0 _ rfl,by rw[Q6 (kw.block gP ax (by simp))];exact cP 1 _ rfl,QX ax kw.size,by rw[aa BR];rfl,by rw[aa BR];rfl,ae BR⟩
     have bg:Hid (OE b w l V o v[m]=tL b w l (iU V o [v[m].1]) (iU V o [v[m].2])):=rfl
     have G:Hid (OE b w l V o v[m]=false->pP b w l H f M V o=9):=fun h=>by
      rw[HR.out,QT];rw[Sn];intro b3;have:=b3 v[m] (Rb al);rw[h]at this;cases this
     have af:Hid (OE b w l V o v[m]=true->∀q (N:q<v.length),q<m+1->OE b w l V o v[q]=true):=fun h q N h2=>by
      by_cases e:q=m
      ·subst e;exact h
      ·exact b2.out q N (by omega)
     generalize OE b w l V o v[m]=mp at *;generalize v[m].1=x at *;generalize v[m].2=ad at *;clear cP;obtain⟨cx,cy,ar,v0,v1,bv⟩:=cc.out wr I.out;have cu:=pR V o x 10000 U.out (by omega);have d8:=pR V o ad 10000 U.out (by omega)
     have bw:Hid (ge (wr.alloc (.cells #[.string x] 9)).drew (some ⟨wr.heap.size,0,none⟩) [x]):=by
      intro q z N;have hk:(wr.alloc (.cells #[.string x] 9)).drew.heap[wr.heap.size]?=some (.cells #[.string x] 9 (0,0)):=QS _ _;refine⟨_,rfl,ae hk,?_⟩;rw[aa hk]
      match q,N with
      | 0,N=>simp at N;subst N;rfl
     go_upto_region 16 with fail
     go_region_with (go_at_call 179;refine(a2.out [x] (some ⟨wr.heap.size,0,none⟩) 1 _ (by exact((t.out.trans C.out).alloc _).drew) (by exact bw.out) (by simp)).mono ?_;rintro e w5 ⟨h5,rfl,x5⟩)
     all_goals
      have a6:Hid (ab [] w2 w5):=((I.out.alloc _).drew).trans x5.kept;have b1:=hI x5.own.srcX;obtain⟨PX,c9⟩:∃PX,Hid (iU V o [x]=PX):=⟨_,rfl⟩
      rw[c9.out]at b1 cu bg ⊢
      have ct:Hid (ge (w5.alloc (.cells #[.string ad] 9)).drew (some ⟨w5.heap.size,0,none⟩) [ad]):=by
       intro q z N;have hk:(w5.alloc (.cells #[.string ad] 9)).drew.heap[w5.heap.size]?=some (.cells #[.string ad] 9 (0,0)):=QS _ _;refine⟨_,rfl,ae hk,?_⟩;rw[aa hk]
       match q,N with
       | 0,N=>simp at N;subst N;rfl
      clear cx cy ar v0 v1 bv x5 bw;obtain⟨cx,cy,ar,v0,v1,bv⟩:=cc.out w5 a6.out
      go_upto_region 17 with fail
      go_region_with (go_at_call 179;refine(a2.out [ad] (some ⟨w5.heap.size,0,none⟩) 1 _ (by exact(((t.out.trans r.out).trans a6.out).alloc _).drew) (by exact ct.out) (by simp)).mono ?_;rintro e w6 ⟨h6,rfl,x6⟩)
      all_goals
       have bf:Hid (ab [] w2 w6):=((a6.out.alloc _).drew).trans x6.kept;have a0:=hI (Hz y l PX (iU V o [ad]) h5.ao h6.ao h5.cap h6.cap b d a w k S w6 (fz.Vb HD.out (r.out.trans bf.out)) az.out (ge.Vb b1.out ((((ab.refl [] w5).alloc _).drew).trans x6.kept)) x6.own.srcX (by omega) (by omega));rw[<-bg.out]at a0;clear x6
       cases mp
       ·have Q:=hI (G.out rfl)
        go_wp2_with (go_at_call 214;refine QU a0.out ?_;rintro e w7 ⟨rfl,k7⟩;have a7:=(show Hid _ from(r.out.trans bf.out).trans k7);clear k7);go_ret;exact⟨QN Q.out.symm,t.out.trans a7.out⟩
       ·have Q:=hI (af.out rfl)
        go_wp2_with (go_at_call 214;refine QU a0.out ?_;rintro e w7 ⟨rfl,k7⟩;have a7:=hI (bf.out.trans k7);clear k7)
        go_roundg (v.length-(m+1))
        case measure=>omega
        case rel=>exact⟨m+1,by omega,rfl,by go_num,Q,a7⟩
    ·have em:m=v.length:=by omega
     have Q:Hid (pP b w l H f M V o=0):=by
      show _=_
      rw[HR.out,QW];rw[Sn];intro p hp;obtain⟨q,N,e⟩:=R0 hp;rw[<-e];exact b2.out q N (by omega)
     have cR:¬(m:Int)<(v.length:Int):=by omega
     go_wp2;go_ret;exact⟨QN Q.out.symm,t.out.trans C.out⟩
def ui(T:List Tk)(S:List Sm)(a:Nat)(P:List dj)(i:Nat)(M:List (List ByteArray)):List ByteArray×Int :=
 if(bO P i).ref=-2 then(M.getD (bO P i).back [],0)
 else if aC (au S (bO P i).ref.toNat).k=false then(if 32<(cI T S (bO P i).ref.toNat).length then([],10) else(cI T S (bO P i).ref.toNat,0))
 else if dS P i<0 then([],6)
 else
  let hs:=bW T S (bO P i).ref.toNat
  let on:=(mJ P i).map (fun q=>M.getD q [])
  let why:=pP T S a (bO P i).ref.toNat hs on (gK T S hs hs.length) (gi S hs on hs.length)
  if(why==0)=false then([],why)
  else if 32<(iU (gK T S hs hs.length) (gi S hs on hs.length) (cI T S (bO P i).ref.toNat)).length then([],10)
  else(iU (gK T S hs hs.length) (gi S hs on hs.length) (cI T S (bO P i).ref.toNat),0)
structure oo(w:World)(s:Sl):Prop where
 ok:pr w s
 x:ge w s.ao s.L
 pos:0<s.L.length
 le:s.L.length<=10000
theorem oo.Vb(h:oo f v)(k:ab [] f x):oo x v:=⟨h.ok.Vb k,h.x.Vb k,h.pos,h.le⟩
def Kk(T:List Tk)(S:List Sm)(n:Nat):Prop:=∀j,j<n->(aC (au S j).k||aG (au S j).k)=true->0<(cI T S j).length/\(((au S j).k.toList == [36,102])=true->1<(cI T S j).length)
structure Kv(T:List Tk)(S:List Sm)(a:Nat)(P:List dj)(i:Nat):Prop where
 Vm:((bO P i).ref=-2/\(bO P i).back<i)∨∃r,r<a/\(bO P i).ref=(r:Nat)/\(aC (au S r).k||aG (au S r).k)=true/\(aC (au S r).k=true->(bO P i).need=(bW T S r).length)
theorem yG:∀j∈bW b w S,j<S/\bS (au w j).k=false/\aG (au w j).k=true:=fun j d=>by
 have c:=sK b w S j d;have a:=(RH.1 d).2;unfold sJ at a;rw[Rg,RB,Rg]at a
 rcases a.2 with h | ⟨h,-⟩
 ·exact⟨c,fX h (by decide),by unfold aG;rw[h];simp⟩
 ·exact⟨c,fX h (by decide),by unfold aG;rw[h];simp⟩
def Ku(w:World)(A:List Sl)(r:List ByteArray×Int)(e:Ending)(w':World):Prop:=∃s:Sl,e=.returned (.tuple #[.slice s.ao s.L.length s.cap,.int .i64 r.2])/\s.L=r.1/\((r.2==0)=true->oo w' s)/\(s∈A∨∀q o,s.ao=some ⟨q,o,none⟩->w.heap.size<=q)/\ab [] w w'
theorem KN(e:T.ao=some ⟨n,zb,none⟩):T.blk=some n:=by unfold Hd.blk;rw[e];rfl
theorem qy{r:List ByteArray×Int}{e:Ending}(a:r.1=[])(b:(r.2==0)=false)(c:e=.returned (.tuple #[.slice none 0 0,.int .i64 r.2]))(k:ab [] f x):Ku f I r e x :=
 ⟨⟨none,0,[]⟩,c,a.symm,fun h=>(by rw[b]at h;cases h),QV (fun q o e=>by cases e),k⟩
theorem gw.sh(a:gw f x T (aB i))(c:0<i.length)(b:i.length<=10000):oo x ⟨T.ao,T.cap,i⟩:=⟨a.sl,a.own.srcX,c,b⟩
theorem xK{α:Type}(R:List Nat)(f:Nat->α)(k:Nat)(h:k<R.length):(R.take (k+1)).map f=(R.take k).map f++[f R[k]]:=by
 rw[RG h,Ry];rfl
theorem Lq{x:ByteArray}(h:aJ i x=false):wt i x=i.length:=by
 refine Lp rfl (fun j a _=>?_);unfold aJ at h;rw[TH]at h;have:=h i[j] (Rb a);simpa using this
theorem N0{B:List (List ByteArray)}{X:List ByteArray}(a:0<X.length)(h:aJ i (X.getD 0 ⟨#[]⟩)=false):0<(iU i B X).length:=by
 cases X with
 | nil=>simp at a
 | cons x X =>
  have e:(x :: X).getD 0 ⟨#[]⟩=x:=rfl;rw[e]at h;unfold iU;rw[RI,Q0];unfold LZ;rw[Lq h,QT (by omega)];simp;omega
theorem Jo{S:List Sm}{M:List (List ByteArray)}(h:∀l∈M,l.length<=zb):∀l∈gi S y6 M n,l.length<=zb:=by
 intro l a;unfold gi at a;obtain⟨i,-,rfl⟩:=Si.1 a;rw[RT,QQ]
 cases e:M[i]? with
 | none=>simp
 | some m=>have:=h m (R4 e);show m.length-1<=zb;omega
def OL(T:List Tk)(S:List Sm)(n:Nat):Prop:=∀r,r<n->aC (au S r).k=true->aJ (gK T S (bW T S r) (bW T S r).length) ((cI T S r).getD 0 ⟨#[]⟩)=false
theorem JL(P:List dj)(ar:Option Addr)(cP:Nat)(bs:Int)(pf:ByteArray)(pl pc:Int)(A:List Sl)(d7:Option Addr)(cA:Nat)(t:World)(hD:fz t y b d a w k S)(ok:nK b w l)(hB:Kk b w l)(d4:OL b w l)(hn:l<w.length)(hP:cm t ar 6 kV P)(c3:P.length<=100000000)(bj:M0 P)(hi:H<P.length)(d0:Kv b w l P H)(hA:cm t d7 1 Ff A)(c9:∀s∈A,oo t s)(fu:A.length=H) :
  Calls prog 131 #[.pointer (some ⟨y,0,none⟩),.int .i64 l,.agg #[.slice ar P.length cP,.int .i64 bs,.string pf,.int .i64 pl,.int .i64 pc],.int .i64 H,.slice d7 A.length cA] t fun e w'=>Ku t A (ui b w l P H (A.map (·.L))) e w':=by
 obtain⟨W,HW⟩:∃W,Hid (t.alloc (.cells #[.slice ar P.length cP,.int .i64 bs,.string pf,.int .i64 pl,.int .i64 pc] 122)=W):=⟨_,rfl⟩
 have BW:W.heap[t.heap.size]?=some (.cells #[.slice ar P.length cP,.int .i64 bs,.string pf,.int .i64 pl,.int .i64 pc] 122 (0,0)):=by rw[<-HW.out];exact QS _ _
 have dv:Hid (ab [] t W):=by show ab [] t W;rw[<-HW.out];exact(ab.refl [] _).alloc _
 have p0:W.cell? ⟨t.heap.size,0,none⟩=some (.slice ar P.length cP):=by rw[aa BW];rfl
 have el:=ae BW;have ft:(H:Int)<(P.length:Int):=by omega
 obtain⟨gP,rfl,eh,q0,q1,q2,q3,q4,q5⟩:=cm.step (hP.Vb dv.out) H hi;have HP:=hI hP;have HD:=hI hD;have ag:=hI ok;have dz:=hI hB;have eq:=hI d4;have HA:=hI hA;have ds:=hI c9;have fr:=ok.sm;have fo:=ok.tm;have e9:=hI bj;obtain⟨M,cH⟩:∃M,Hid (A.map (·.L)=M):=⟨_,rfl⟩
 have cF:Hid (∀i,i<A.length->M.getD i []=(fQ A i).L):=fun i hk=>by rw[<-cH.out];exact wF A i hk
 rw[cH.out];have eL:=hI (tJ P (some ⟨gP,0,none⟩) cP bs pf pl pc c3 bj (H+1) H);have cu:Hid (∀f,cm f (some ⟨gP,0,none⟩) 6 kV P->0<=dS P H->Calls prog 102 #[.agg #[.slice (some ⟨gP,0,none⟩) P.length cP,.int .i64 bs,.string pf,.int .i64 pl,.int .i64 pc],.int .i64 H] f fun e w'=>∃g,e=.returned (.slice (some ⟨g,0,none⟩) (bO P H).need (bO P H).need)/\nG w' g (mJ P H)/\ab [] f w'):=fun f h1 h2=>Jx P _ cP bs pf pl pc H f c3 bj hi h1 h2
 have ai:=hI (Jy P H);have dT:=hI (Mj P H)
 have c:Hid (ui b w l P H M=if(bO P H).ref=-2 then(M.getD (bO P H).back [],0)
  else if aC (au w (bO P H).ref.toNat).k=false then(if 32<(cI b w (bO P H).ref.toNat).length then([],10) else(cI b w (bO P H).ref.toNat,0))
  else if dS P H<0 then([],6)
  else
   let n:=bW b w (bO P H).ref.toNat
   let on:=(mJ P H).map (fun q=>M.getD q [])
   let D:=pP b w l (bO P H).ref.toNat n on (gK b w n n.length) (gi w n on n.length)
   if(D==0)=false then([],D)
   else if 32<(iU (gK b w n n.length) (gi w n on n.length) (cI b w (bO P H).ref.toNat)).length then([],10)
   else(iU (gK b w n n.length) (gi w n on n.length) (cI b w (bO P H).ref.toNat),0)):=rfl
 have ad:=d0.Vm;have eH:=hI BW;clear d0 hD ok hB hP hA c9 bj d4;obtain⟨iL,ez,dl,d1,d2⟩:=Re Ej;generalize bO P H=st at *;obtain⟨sr,Z,V,sf,sl,sc⟩:=st;simp only at q0 q1 q2 q3 q4 q5 ad c cu ai;obtain⟨W1,a1⟩:∃W1,Hid (W.alloc (.cells #[.int .i64 sr,.int .i64 (Z:Int),.int .i64 (V:Int),.string sf,.int .i64 sl,.int .i64 sc] 162)=W1):=⟨_,rfl⟩
 have B1:W1.heap[W.heap.size]?=some (.cells #[.int .i64 sr,.int .i64 (Z:Int),.int .i64 (V:Int),.string sf,.int .i64 sl,.int .i64 sc] 162 (0,0)):=by rw[<-a1.out];exact QS _ _
 have bT:ab [] W W1:=by rw[<-a1.out];exact(ab.refl [] _).alloc _
 have Q:=hI (dv.out.trans bT)
 have J:Hid (∀f:World,ab [] W1 f->(f.cell? ⟨W.heap.size,0,none⟩=some (.int .i64 sr)/\f.cell? ⟨W.heap.size,1,none⟩=some (.int .i64 (Z:Int))/\W.heap.size<f.heap.size)/\(f.cell? ⟨t.heap.size,0,none⟩=some (.slice (some ⟨gP,0,none⟩) P.length cP)/\f.cell? ⟨t.heap.size,1,none⟩=some (.int .i64 bs)/\f.cell? ⟨t.heap.size,2,none⟩=some (.string pf)/\f.cell? ⟨t.heap.size,3,none⟩=some (.int .i64 pl)/\f.cell? ⟨t.heap.size,4,none⟩=some (.int .i64 pc)/\t.heap.size<f.heap.size)):=fun f kx=>by
  have b1:=kx.get B1 (by simp);have b0:=(bT.trans kx).get eH.out (by simp);exact⟨⟨by rw[aa b1];rfl,by rw[aa b1];rfl,ae b1⟩,by rw[aa b0];rfl,by rw[aa b0];rfl,by rw[aa b0];rfl,by rw[aa b0];rfl,by rw[aa b0];rfl,ae b0⟩
 clear B1 bT BW;obtain⟨⟨U,s1,p⟩,p1,p2,p3,p4,p5,z⟩:=J.out W1 (ab.refl _ _)
 rcases ad with ⟨rfl,fp⟩ | ⟨r,hr,rfl,bf,a4⟩
 ·rw[QW rfl]at c
  have a3:Z<A.length:=by omega
  have fx:(Z:Int)<(A.length:Int):=by omega
  obtain⟨gA,rfl,eP,cj⟩:=cm.sl (cm.Vb HA.out Q.out) Z a3;have HO:=(show Hid _ from(ds.out (fQ A Z) (jK A Z a3)).Vb Q.out);have en:Hid (fQ A Z∈A):=jK A Z a3;rw[cF.out Z a3]at c;generalize fQ A Z=s at *;obtain⟨I,u,sL⟩:=s;simp only at cj c;go_enter func131,ntmps131
  go_upto_region 1 with fail
  rw[HW.out]
  go_upto_region 2 with fail
  rw[a1.out];go_wp2;go_ret2;rw[c.out];exact⟨⟨I,u,sL⟩,rfl,rfl,fun _=>HO.out,Q1 en.out,Q.out⟩
 ·have N:r<w.length:=by omega
  rw[QT (by omega),Sa]at c;have e8:(((r:Nat):Int) == -2)=false:=UV (by omega);have fv:((r:Nat):Int)<(w.length:Int):=by omega
  have fd:(0:Int)<=((r:Nat):Int):=by omega
  have F:bS (au w r).k=false:=by
   unfold aC aG at bf;simp only[Bool.or_eq_true]at bf
   rcases bf with (h | h) | (h | h) <;> exact fX h (by decide)
  have c0:Hid (∀f,ab [] t f->Calls prog 72 #[.pointer (some ⟨y,0,none⟩),.int .i64 ((r:Nat):Int)] f fun e w'=>∃h',e=.returned (.slice h'.ao (cI b w r).length h'.cap)/\vj f w' h' (cI b w r)):=fun f kx=>by
   have:=kD y r b d a w k S f (fz.Vb HD.out kx) N (by omega) (by rw[bM w r N];exact ag.out.e r hr F);rw[bM w r N]at this;exact this
  obtain⟨cp,-⟩:=dz.out r hr bf;have eX:(cI b w r).length<=b.length:=kg b _;obtain⟨X,HX⟩:∃X,Hid (cI b w r=X):=⟨_,rfl⟩
  rw[HX.out]at c0 c cp eX
  have eo:Hid (∀f:World,ab [] t f->∃gs,k=some ⟨gs,0,none⟩/\gs<f.heap.size/\f.cell? ⟨y,1,none⟩=some (.slice k w.length S)/\y<f.heap.size/\f.cell? ⟨gs,r*4+3,none⟩=some (.string (au w r).k)):=fun f kx=>by
   have hd:=fz.Vb HD.out kx;obtain⟨-,U,G⟩:=hd.cells;obtain⟨gs,e3,cq,-,-,-,q3⟩:=hd.s.2 r w[r] (QP N);rw[bM w r N]at q3;exact⟨gs,e3,cq,U,G,q3⟩
  have cy:=hI (c0.out W1 Q.out);go_enter func131,ntmps131
  go_upto_region 1 with fail
  rw[HW.out]
  go_upto_region 2 with fail
  rw[a1.out];clear q0 q1 q2 q3 q4 q5 p0 eh el
  go_upto_region 5 with (go_at_call 72;refine QU cy.out ?_;rintro e w2 ⟨h2,rfl,x2⟩)
  have cx:=hI (Q.out.trans x2.kept);have ct:=hI x2.kept;have eE:=hI x2.toL;clear x2 U s1 p p1 p2 p3 p4 p5 z;obtain⟨⟨U,s1,p⟩,p1,p2,p3,p4,p5,z⟩:=J.out w2 ct.out;obtain⟨gs,rfl,cq,t0,ea,t1⟩:=eo.out w2 cx.out;obtain⟨sk,db⟩:∃sk,Hid ((au w r).k=sk):=⟨_,rfl⟩
  rw[db.out]at t1 c a4;obtain⟨a5,cc⟩:∃a5,Hid (aC sk=a5):=⟨_,rfl⟩
  have c2:Hid (∀f,Calls prog 122 #[.string sk] f fun e w'=>e=.returned (.bool a5)/\w'=f):=fun f=>by rw[<-cc.out];exact fT sk f
  rw[cc.out]at c a4
  go_quiet ((go_at_call 122;exact Rd (c2.out _)))
  go_upto_region 6 with fail
  obtain⟨w3,cb⟩:∃w3,Hid (w2.drewN nq=w3):=⟨_,rfl⟩
  rw[cb.out];have k3:ab [] w2 w3:=by rw[<-cb.out];exact(ab.refl [] w2).drewN nq
  have al:=hI (cx.out.trans k3);have dt:=hI (ct.out.trans k3);have b5:=hI (eE.out.Vb k3);clear U s1 p p1 p2 p3 p4 p5 z cq t0 ea t1 k3 cb c2;obtain⟨⟨U,s1,p⟩,p1,p2,p3,p4,p5,z⟩:=J.out w3 dt.out
  cases a5
  ·rw[QW rfl]at c
   by_cases ap:32<X.length
   ·rw[QW ap]at c
    have an:(32:Int)<(X.length:Int):=by omega
    go_wp2;go_ret2;rw[c.out];exact qy rfl rfl rfl al.out
   ·rw[QT ap]at c
    have an:¬(32:Int)<(X.length:Int):=by omega
    go_wp2;go_ret2;rw[c.out];exact⟨⟨h2.ao,h2.cap,X⟩,rfl,rfl,fun _=>b5.out.sh cp (by omega),QV (fun q o e=>Q3 Q.out.size (b5.out.far q (KN e))),al.out⟩
  ·rw[QT (by simp)]at c
   have cl:Hid (V=(bW b w r).length):=a4 rfl;clear a4;have b3:=hI (eL.out w3 (by omega) hi (cm.Vb HP.out al.out))
   by_cases dp:dS P H<0
   ·rw[QW dp]at c
    generalize dS P H=bg at *;go_wp2_with (go_at_call 132;refine QU b3.out ?_;rintro e w4 ⟨rfl,k4⟩;have a2:=hI (al.out.trans k4);clear k4);go_ret2;rw[c.out];exact qy rfl rfl rfl a2.out
   ·rw[QT dp]at c
    have cX:Hid (∀f,ab [] t f->Calls prog 102 #[.agg #[.slice (some ⟨gP,0,none⟩) P.length cP,.int .i64 bs,.string pf,.int .i64 pl,.int .i64 pc],.int .i64 H] f fun e w'=>∃g,e=.returned (.slice (some ⟨g,0,none⟩) V V)/\nG w' g (mJ P H)/\ab [] f w'):=fun f kx=>cu.out f (cm.Vb HP.out kx) (by omega)
    have bc:=hI (dT.out (by omega));obtain⟨R,HR⟩:∃R,Hid (mJ P H=R):=⟨_,rfl⟩
    rw[HR.out]at cX bc c ai;generalize dS P H=bg at *
    go_upto_region 11 with (go_at_call 132;refine QU b3.out ?_;rintro e w4 ⟨rfl,k4⟩)
    have a2:=hI (al.out.trans k4);have cz:=hI (dt.out.trans k4);have e2:=hI (b5.out.Vb k4);clear U s1 p p1 p2 p3 p4 p5 z k4;obtain⟨⟨U,s1,p⟩,p1,p2,p3,p4,p5,z⟩:=J.out w4 cz.out;have bw:=hI (cX.out w4 a2.out)
    go_upto_region 14 with (go_at_call 102;refine QU bw.out ?_;rintro e w5 ⟨g5,rfl,i5,k5⟩)
    have ex:=hI (a2.out.trans k5);have e1:=hI (cz.out.trans k5);have ec:=hI (e2.out.Vb k5);have eY:=hI i5;have eA:Hid (gw w5 w5 ⟨none,0⟩ (lA [])):=⟨QZ _ _ _ _,(by intro i hk;cases hk),ab.refl _ _⟩;clear U s1 p p1 p2 p3 p4 p5 z k5 i5 bw b3;have fq:V<=10000:=by rw[cl.out];have:=kj b w r;omega
    go_wp2
    go_loopg [17,18] V (fun g o kv wr=>∃(i:Nat) (h:Hd) (O:List Sl),i<=V/\g=V-i/\o=.slice h.ao O.length h.cap/\kv=.int .i64 i/\O.length<=i/\Hid (O=(R.take i).map (fQ A))/\Hid (gw w5 wr h (lA O)))
    case atStart=>exact⟨0,⟨none,0⟩,[],by omega,rfl,rfl,rfl,QR _,by show _=_;simp,eA⟩
    case round =>
     obtain⟨i,h,O,hk,hg,rfl,rfl,fb,HO,E⟩:=hrel;have co:=hI (ex.out.trans E.out.kept);have cL:=hI (e1.out.trans E.out.kept)
     by_cases eB:i<V
     ·have eS:(i:Int)<(V:Int):=by omega
      have ck:i<R.length:=by rw[ai.out];exact eB
      have fs:=bc.out R[i] (Rb ck);have ev:R[i]<A.length:=by omega
      obtain⟨g6,e6,fi,c6⟩:=(nG.src (show nG wr g5 R from E.out.kept.get eY.out (by simp))) i R[i] (QP ck)
      cases e6
      obtain⟨gA,rfl,eP,cj⟩:=cm.sl (cm.Vb HA.out co.out) R[i] ev;have es:Hid (O++[fQ A R[i]]=(R.take (i+1)).map (fQ A)):=by show _=_;rw[xK R _ i ck,HO.out]
      have e5:((R[i]:Nat):Int)<(A.length:Int):=by omega
      have fl:(0:Int)<=((R[i]:Nat):Int):=by omega
      generalize fQ A R[i]=s at *;generalize R[i]=q at *;obtain⟨I,u,sL⟩:=s;simp only at cj;have eT:=E.out.own;have em:(lA O).n<=900000000:=by show O.length<=_;omega
      go_wp2_with (at_builtin;refine bN _ rfl (.tmp 70) (.tmp 78) 218 rfl iL (.slice none 0 0) 24 h (lA O) [.slice I sL.length u] underlying218 ez dl d1 d2 rfl Rc rfl eT em (by omega) rfl rfl (by simp[Value.oneCell']) ?_;intro h7 w7 b2 c8;rw[show([.slice I sL.length u]:List Value)=Ff ⟨I,u,sL⟩ from rfl,qw]at b2;have ep:=hI (E.out.Vl c8 b2);clear b2 c8)
      go_roundg (V-(i+1))
      case measure=>omega
      case rel=>exact⟨i+1,h7,O++[⟨I,u,sL⟩],by omega,rfl,by simp[lA,kU],by go_num,by simp;omega,es,ep⟩
     ·have ek:i=V:=by omega
      subst ek;have ch:Hid (O=R.map (fQ A)):=by show _=_;rw[HO.out,Tu (by rw[ai.out];exact QR _)]
      have a0:Hid (O.length=i):=by show _=_;rw[ch.out,Ri,ai.out]
      have ej:Hid (O.map (·.L)=R.map (fun q=>M.getD q [])):=by
       show _=_
       rw[ch.out,List.map_map];refine Ux (fun q hq=>?_);have:=bc.out q hq;exact(cF.out q (by omega)).symm
      have C:Hid (∀s∈O,∀f,ab [] t f->oo f s):=fun s n f kx=>by
       rw[ch.out]at n;obtain⟨q,hq,rfl⟩:=Si.1 n;have:=bc.out q hq;exact(ds.out _ (jK A q (by omega))).Vb kx
      have eS:¬(i:Int)<(i:Int):=by omega
      rw[<-ej.out]at c;have bz:=hI (nP y r b d a w _ S wr (fz.Vb HD.out co.out) (ag.out.mono (by omega)) N (ag.out.e r hr F));have ax:=hI (yG b w r);have be:=hI (eq.out r hr (by rw[db.out];exact cc.out));rw[HX.out]at be;have cf:(bW b w r).length<=10000:=by have:=kj b w r;omega
      obtain⟨m,e0⟩:∃m,Hid (bW b w r=m):=⟨_,rfl⟩
      rw[e0.out]at bz ax c cl be cf;obtain⟨⟨U,s1,p⟩,-⟩:=J.out wr cL.out
      go_upto_region 20 with (go_at_call 62;refine QU bz.out ?_;rintro e w7 ⟨h7,rfl,x7⟩)
      have aS:=hI (co.out.trans x7.kept);have e4:=hI (cL.out.trans x7.kept);have eg:=(show Hid _ from(ec.out.Vb E.out.kept).Vb x7.kept);have eb:=hI (E.out.Vb x7.kept);have bp:=hI x7.own.srcN;have bl:=hI (eb.out.own.srcG vw)
      have df:∀H,H<m.length->GI w m H=true->1<(cI b w (m.getD H 0)).length:=fun q hq ca=>by
       have e:m.getD q 0=m[q]:=by rw[QQ,QP hq];rfl
       unfold GI at ca;rw[e]at ca ⊢;obtain⟨j1,-,j3⟩:=ax.out m[q] (Rb hq);exact(dz.out m[q] (by omega) (by rw[j3];simp)).2 ca
      have d5:=hI df;have bk:m.length<=O.length:=by rw[a0.out,cl.out];exact QR _
      have cR:O.length<=100000:=by have:=a0.out;omega
      have az:=hI (Ju y l b d a w _ S m h7.ao h7.cap O h.ao h.cap w7 (fz.Vb HD.out aS.out) ag.out bp.out (fun j hj=>by have:=(ax.out j hj).1;omega) cf bl.out (fun s n=>(C.out s n w7 aS.out).ok) bk d5.out (fun s n=>(C.out s n w7 aS.out).pos));clear df U s1 p x7 bz;obtain⟨VV,c1⟩:∃VV,Hid (gK b w m m.length=VV):=⟨_,rfl⟩
      rw[c1.out]at az c be;have er:Hid (VV.length=(xO w m m.length).length):=by show _=_;rw[<-c1.out];unfold gK;simp
      obtain⟨OM,af⟩:∃OM,Hid (O.map (·.L)=OM):=⟨_,rfl⟩
      rw[af.out]at az c;have c4:Hid ((gi w m OM m.length).length=(xO w m m.length).length):=by show _=_;unfold gi;simp
      have cV:Hid ((xO w m m.length).length<=m.length):=by
       show _<=_
       unfold xO;have:=Sc (GI w m) (List.range m.length);rw[Tf]at this;exact this
      have bo:Hid (∀e7∈gi w m OM m.length,e7.length<=10000):=Jo (fun e7 hl=>by
       rw[<-af.out]at hl;obtain⟨s,n,rfl⟩:=Si.1 hl;exact(C.out s n w7 aS.out).le)
      obtain⟨BV,eV⟩:∃BV,Hid (gi w m OM m.length=BV):=⟨_,rfl⟩
      rw[eV.out]at az c c4 bo
      go_upto_region 21 with (go_at_call 177;refine QU az.out ?_;rintro e w8 ⟨hv,G,B,rfl,aT,d6,nv,nb⟩)
      obtain⟨W8,bd⟩:∃W8,Hid (w8.alloc (.cells #[.slice hv.ao VV.length hv.cap,.slice G.ao B.length G.cap] 271)=W8):=⟨_,rfl⟩
      rw[bd.out];have k8:ab [] w8 W8:=by rw[<-bd.out];exact(ab.refl [] _).alloc _
      have B8:W8.heap[w8.heap.size]?=some (.cells #[.slice hv.ao VV.length hv.cap,.slice G.ao B.length G.cap] 271 (0,0)):=by rw[<-bd.out];exact QS _ _
      have v:=nv.kept.trans k8;have T:=hI (aS.out.trans v);have et:=hI (e4.out.trans v);have bx:Hid (B.length=(xO w m m.length).length):=by show _=_;rw[<-c4.out,<-aT,Ri]
      have cB:VV.length<=B.length:=by rw[er.out,bx.out];exact QR _
      have cs:B.length<=100000:=by have:=cV.out;rw[bx.out];omega
      have bv:Hid (∀s∈B,s.L.length<=10000):=fun s n=>bo.out s.L (by rw[<-aT];exact Si.2 ⟨s,n,rfl⟩)
      have dk:=hI (nv.own.srcX.Vb k8);have cE:=(show Hid _ from(nb.own.srcG vw).Vb k8);have c7:=hI (d6.Vb v);have b6:=hI (IQ y l r b d a w _ S m h7.ao h7.cap O h.ao h.cap VV hv.ao hv.cap B G.ao G.cap W8 (fz.Vb HD.out T.out) ag.out hr F (qD.Vb bp.out v) (fun j hj=>⟨by have:=(ax.out j hj).1;omega,(ax.out j hj).2.1⟩) cf (cm.Vb bl.out v) (fun s n=>(C.out s n W8 T.out).ok) (fun s n=>(C.out s n W8 T.out).x) bk cR d5.out (fun s n=>⟨(C.out s n W8 T.out).pos,(C.out s n W8 T.out).le⟩) dk.out cE.out c7.out cB cs bv.out);rw[af.out,aT]at b6;obtain⟨D,d3⟩:∃D,Hid (pP b w l r m OM VV BV=D):=⟨_,rfl⟩
      rw[d3.out]at b6 c;obtain⟨⟨U,s1,p⟩,-⟩:=J.out W8 et.out;have v0:W8.cell? ⟨w8.heap.size,0,none⟩=some (.slice hv.ao VV.length hv.cap):=by rw[aa B8];rfl
      have v1:W8.cell? ⟨w8.heap.size,1,none⟩=some (.slice G.ao B.length G.cap):=by rw[aa B8];rfl
      have v2:=ae B8;have d9:=hI B8;have ef:=hI (eg.out.Vb v);have d8:=hI aT;clear k8 v nv nb d6 B8 az bd aT
      go_upto_region 22 with (go_at_call 178;refine QU b6.out ?_;rintro e w9 ⟨rfl,k9⟩)
      have a7:=hI (T.out.trans k9)
      cases ba:(D==0)
      ·rw[QW ba]at c
       go_wp2;go_ret2;rw[c.out];exact qy rfl ba rfl a7.out
      ·rw[QT (by rw[ba];simp)]at c
       have ei:D=0:=by simpa using ba
       subst ei;have a6:=hI (CN VV hv.ao hv.cap B G.ao G.cap X h2.ao h2.cap w9 (ge.Vb dk.out k9) (cm.Vb cE.out k9) (pa.Vb c7.out k9) cB cs (ge.Vb ef.out.own.srcX k9) (by omega) bv.out);rw[d8.out]at a6;have c5:=N0 (B:=BV) cp be.out;have B9:=k9.get d9.out (by simp);obtain⟨Y,HY⟩:∃Y,Hid (iU VV BV X=Y):=⟨_,rfl⟩
       rw[HY.out]at a6 c c5;have v3:w9.cell? ⟨w8.heap.size,0,none⟩=some (.slice hv.ao VV.length hv.cap):=by rw[aa B9];rfl
       have v4:w9.cell? ⟨w8.heap.size,1,none⟩=some (.slice G.ao B.length G.cap):=by rw[aa B9];rfl
       have v5:=ae B9;clear k9 v0 v1 v2 U s1 p
       by_cases ap:32<Y.length
       ·rw[QW ap]at c
        have an:(32:Int)<(Y.length:Int):=by omega
        go_wp2_with (go_at_call 179;refine QU a6.out ?_;rintro e ey ⟨b4,rfl,K⟩;have ac:=hI (a7.out.trans K.kept);clear K);go_ret2;rw[c.out];exact qy rfl rfl rfl ac.out
       ·rw[QT ap]at c
        have an:¬(32:Int)<(Y.length:Int):=by omega
        go_wp2_with (go_at_call 179;refine QU a6.out ?_;rintro e ey ⟨b4,rfl,K⟩;have ac:=hI (a7.out.trans K.kept);have br:=hI K;clear K);go_ret2;rw[c.out];exact⟨⟨b4.ao,b4.cap,Y⟩,rfl,rfl,fun _=>br.out.sh c5 (by omega),QV (fun q o e=>Q3 a7.out.size (br.out.far q (KN e))),ac.out⟩
structure ik where
 label:ByteArray
 Vc:Int
 why:Int
 file:ByteArray
 line:Int
 col:Int
def jJ(r:ik):List Value:=[.string r.label,.int .i64 r.Vc,.int .i64 r.why,.string r.file,.int .i64 r.line,.int .i64 r.col]
theorem xf(r:ik):(jJ r).length=6:=rfl
def xt(T:List Tk)(S:List Sm)(a:Nat)(P:List dj)(l:ByteArray)(t:Tk)(M:List (List ByteArray)):ik :=
 if(dS P (P.length-1)==0)=false then⟨l,2,11,t.file,t.line,t.col⟩
 else if oc (cI T S a) (M.getD (P.length-1) [])=false then⟨l,2,12,t.file,t.line,t.col⟩ else⟨l,4,0,⟨#[]⟩,0,0⟩
def po(T:List Tk)(S:List Sm)(a:Nat)(P:List dj)(l:ByteArray)(t:Tk):Nat->Nat->List (List ByteArray)->ik
 | 0,_,M=>xt T S a P l t M
 | n+1,i,M=>if((ui T S a P i M).2==0)=false then⟨l,2,(ui T S a P i M).2,(bO P i).file,(bO P i).line,(bO P i).col⟩ else po T S a P l t n (i+1) (M++[(ui T S a P i M).1])
def mR(T:List Tk)(S:List Sm)(a:Nat)(p:jS)(t:Tk):ik :=
 if(p.why==0)=false then⟨bG T (au S a),2,p.why,p.file,p.line,p.col⟩
 else if 0<=ic p.st then⟨bG T (au S a),3,p.why,(bO p.st (ic p.st).toNat).file,(bO p.st (ic p.st).toNat).line,(bO p.st (ic p.st).toNat).col⟩
 else po T S a p.st (bG T (au S a)) t p.st.length 0 []
theorem ob{q s r:Value}(h:f.heap[n]?=some (.cells #[N,g,z6,q,s,r] 38 (0,0)))(a b c d e i:Value) :
  (f.setCell ⟨n,0,none⟩ a).cell? ⟨n,0,none⟩=some a/\((f.setCell ⟨n,0,none⟩ a).setCell ⟨n,1,none⟩ b).cell? ⟨n,1,none⟩=some b/\(((f.setCell ⟨n,0,none⟩ a).setCell ⟨n,1,none⟩ b).setCell ⟨n,2,none⟩ c).cell? ⟨n,2,none⟩=some c/\((((f.setCell ⟨n,0,none⟩ a).setCell ⟨n,1,none⟩ b).setCell ⟨n,2,none⟩ c).setCell ⟨n,3,none⟩ d).cell? ⟨n,3,none⟩=some d /\
  (((((f.setCell ⟨n,0,none⟩ a).setCell ⟨n,1,none⟩ b).setCell ⟨n,2,none⟩ c).setCell ⟨n,3,none⟩ d).setCell ⟨n,4,none⟩ e).cell? ⟨n,4,none⟩=some e/\((((((f.setCell ⟨n,0,none⟩ a).setCell ⟨n,1,none⟩ b).setCell ⟨n,2,none⟩ c).setCell ⟨n,3,none⟩ d).setCell ⟨n,4,none⟩ e).setCell ⟨n,5,none⟩ i).cell? ⟨n,5,none⟩=some i:=by
 have l:=ah h 0 a;have o:=ah l 1 b;have j:=ah o 2 c;have m:=ah j 3 d;have k:=ah m 4 e;have p:=ah k 5 i;exact⟨by rw[aa l];rfl,by rw[aa o];rfl,by rw[aa j];rfl,by rw[aa m];rfl,by rw[aa k];rfl,by rw[aa p];rfl⟩
theorem dZ{r:ik}(h:f.heap[n]?=some (.cells (jJ r).toArray 38 (0,0))) :
  (f.cell? ⟨n,0,none⟩=some (.string r.label)/\f.cell? ⟨n,1,none⟩=some (.int .i64 r.Vc)/\f.cell? ⟨n,2,none⟩=some (.int .i64 r.why)/\f.cell? ⟨n,3,none⟩=some (.string r.file)/\f.cell? ⟨n,4,none⟩=some (.int .i64 r.line)/\f.cell? ⟨n,5,none⟩=some (.int .i64 r.col)) /\
  (f.frozen? ⟨n,0,none⟩=false/\f.frozen? ⟨n,1,none⟩=false/\f.frozen? ⟨n,2,none⟩=false/\f.frozen? ⟨n,3,none⟩=false/\f.frozen? ⟨n,4,none⟩=false/\f.frozen? ⟨n,5,none⟩=false)/\n<f.heap.size:=by
 refine⟨⟨?_,?_,?_,?_,?_,?_⟩,⟨am h 0,am h 1,am h 2,am h 3,am h 4,am h 5⟩,ae h⟩
 all_goals (rw[aa h];rfl)
def N8:ik:=⟨⟨#[]⟩,0,0,⟨#[]⟩,0,0⟩
def Ks(w:World)(r:ik)(e:Ending)(w':World):Prop:=e=.returned (.agg (jJ r).toArray)/\ab [] w w'
structure Kq(T:List Tk)(S:List Sm)(a:Nat)(p:jS):Prop where
 le:p.st.length<=100000000
 nd:M0 p.st
 st:p.why=0->0<p.st.length/\∀i,i<p.st.length->(bO p.st i).ref≠-1->Kv T S a p.st i
structure A8(w wr:World)(p:jS)(hp:Hd)(r:ik):Prop where
 e:wr.heap[w.heap.size]?=some (.cells #[.slice hp.ao p.st.length hp.cap,.int .i64 p.why,.string p.file,.int .i64 p.line,.int .i64 p.col] 122 (0,0))
 z:wr.heap[w.heap.size+1]?=some (.cells (jJ N8).toArray 38 (0,0))
 r:wr.heap[w.heap.size+2]?=some (.cells (jJ r).toArray 38 (0,0))
 kept:ab [] w wr
theorem A8.Vb{b:World}{r:ik}(a:A8 f x o T r)(k:ab [] x b):A8 f b o T r:=⟨k.get a.e (by simp),k.get a.z (by simp),k.get a.r (by simp),a.kept.trans k⟩
theorem A8.set{r r':ik}(a:A8 f x o T r)(i:Nat)(v:Value)(h:(jJ r).set i v=jJ r'):A8 f (x.setCell ⟨f.heap.size+2,i,none⟩ v) o T r':=by
 have k:ab [f.heap.size+2] x (x.setCell ⟨f.heap.size+2,i,none⟩ v):=(ab.refl _ _).setCell (Q1 (by simp)) _;refine⟨k.get a.e (by simp),k.get a.z (by simp),?_,a.kept.setCell (QV (by simp)) _⟩;rw[ah a.r,<-h];simp
theorem A8.prf{r:ik}(a:A8 f x o T r):x.cell? ⟨f.heap.size,0,none⟩=some (.slice T.ao o.st.length T.cap)/\x.cell? ⟨f.heap.size,1,none⟩=some (.int .i64 o.why)/\x.cell? ⟨f.heap.size,2,none⟩=some (.string o.file)/\x.cell? ⟨f.heap.size,3,none⟩=some (.int .i64 o.line)/\x.cell? ⟨f.heap.size,4,none⟩=some (.int .i64 o.col)/\f.heap.size<x.heap.size :=
 ⟨by rw[aa a.e];rfl,by rw[aa a.e];rfl,by rw[aa a.e];rfl,by rw[aa a.e];rfl,by rw[aa a.e];rfl,ae a.e⟩
theorem Qi(h:oo f v):∃q o,v.ao=some ⟨q,o,none⟩/\q<f.heap.size:=by
 obtain⟨g,e,a,-⟩:=h.x 0 _ (mm v.L 0 h.pos);exact⟨g,0,e,a⟩
theorem Ms(g:bt f x T z7)(a:oo f v)(n:∀q o,v.ao=some ⟨q,o,none⟩->T.blk≠some q):oo x v:=by
 refine⟨⟨fun k i h=>?_,a.ok.nil,a.ok.le⟩,fun k i h=>?_,a.pos,a.le⟩
 ·obtain⟨q,o,e,b,c⟩:=a.ok.src k i h
  exact⟨q,o,e,QX b g.kept.size,by rw[Q6 (g.kept.block q b (fun d=>n q o e (aN d)))];exact c⟩
 ·obtain⟨q,e,b,c⟩:=a.x k i h
  exact⟨q,e,QX b g.kept.size,by rw[Q6 (g.kept.block q b (fun d=>n q 0 e (aN d)))];exact c⟩
theorem Ob(g:bt f x T z7)(a:∀v∈I,oo f v)(n:∀v∈I,∀q o,v.ao=some ⟨q,o,none⟩->T.blk≠some q)(b:oo f v)(m:∀q o,v.ao=some ⟨q,o,none⟩->T.blk≠some q):∀t∈I++[v],oo x t:=fun t c=>by
 rcases Rr.1 c with c | c
 ·exact Ms g (a t c) (n t c)
 ·rw[Q9.1 c];exact Ms g b m
theorem M8(g:bt f x T z7)(a:∀v∈I,oo f v)(n:∀v∈I,∀q o,v.ao=some ⟨q,o,none⟩->T.blk≠some q)(b:oo f v)(m:∀q o,v.ao=some ⟨q,o,none⟩->T.blk≠some q):∀t∈I++[v],∀q o,t.ao=some ⟨q,o,none⟩->z7.blk≠some q:=fun t c q o e i=>by
 have d:oo f t/\T.blk≠some q:=by
  rcases Rr.1 c with c | c
  ·exact⟨a t c,n t c q o e⟩
  ·rw[Q9.1 c]at e ⊢;exact⟨b,m q o e⟩
 rcases g.blk with h | ⟨l,h,k⟩
 ·exact d.2 (by rw[<-h];exact i)
 ·rw[h]at i;cases i
  obtain⟨p,r,j,s⟩:=Qi d.1;rw[e]at j
  cases j
  omega
theorem AL(p:jS)(R:Hd)(c:World)(hD:fz c y b d a w k S)(ok:nK b w l)(hB:Kk b w l)(cx:OL b w l)(hn:l<w.length)(hE:cU b (au w l).h)(c8:(au w l).a<b.length)(c2:(au w l).z=H+1)(cL:H<b.length)(hP:cm c R.ao 6 kV p.st)(a1:Kq b w l p) :
  Calls prog 89 #[.pointer (some ⟨y,0,none⟩),.int .i64 l,.agg #[.slice R.ao p.st.length R.cap,.int .i64 p.why,.string p.file,.int .i64 p.line,.int .i64 p.col]] c fun e w'=>Ks c (mR b w l p (b.getD H jf)) e w':=by
 obtain⟨W,HW⟩:∃W,Hid (((c.alloc (.cells #[.slice R.ao p.st.length R.cap,.int .i64 p.why,.string p.file,.int .i64 p.line,.int .i64 p.col] 122)).alloc (.cells #[.string ⟨#[]⟩,.int .i64 0,.int .i64 0,.string ⟨#[]⟩,.int .i64 0,.int .i64 0] 38)).alloc (.cells #[.string ⟨#[]⟩,.int .i64 2,.int .i64 p.why,.string p.file,.int .i64 p.line,.int .i64 p.col] 38)=W):=⟨_,rfl⟩
 have V0:A8 c W p R ⟨⟨#[]⟩,2,p.why,p.file,p.line,p.col⟩:=by
  obtain⟨W1,aT⟩:∃W1,W1=c.alloc (.cells #[.slice R.ao p.st.length R.cap,.int .i64 p.why,.string p.file,.int .i64 p.line,.int .i64 p.col] 122):=⟨_,rfl⟩
  obtain⟨W2,a0⟩:∃W2,W2=W1.alloc (.cells #[.string ⟨#[]⟩,.int .i64 0,.int .i64 0,.string ⟨#[]⟩,.int .i64 0,.int .i64 0] 38):=⟨_,rfl⟩
  have O:W1.heap.size=c.heap.size+1:=by rw[aT];simp
  have T:W2.heap.size=c.heap.size+2:=by rw[a0];simp[O]
  have k0:ab [] c W1:=by rw[aT];exact(ab.refl [] _).alloc _
  have k1:ab [] W1 W2:=by rw[a0];exact(ab.refl [] _).alloc _
  have I:W1.heap[c.heap.size]?=some (.cells #[.slice R.ao p.st.length R.cap,.int .i64 p.why,.string p.file,.int .i64 p.line,.int .i64 p.col] 122 (0,0)):=by rw[aT];exact QS _ _
  have J:W2.heap[c.heap.size+1]?=some (.cells (jJ N8).toArray 38 (0,0)):=by rw[a0,<-O];exact QS _ _
  rw[<-HW.out,<-aT,<-a0];have k2:ab [] W2 (W2.alloc (.cells #[.string ⟨#[]⟩,.int .i64 2,.int .i64 p.why,.string p.file,.int .i64 p.line,.int .i64 p.col] 38)):=(ab.refl [] _).alloc _;exact⟨k2.get (k1.get I (by simp)) (by simp),k2.get J (by simp),by rw[<-T];exact QS _ _,(k0.trans k1).trans k2⟩
 have a6:=hI V0;have HD:=hI hD;have cP:=hI ok;have HP:=hI hP;have ec:=ok.sm;have d9:=ok.tm;have ds:=hI hB;have c7:=hI cx;have d4:=hI hE;have a2:=a1.le;have bd:=hI a1.nd;have bv:=hI a1.st
 have cp:Hid (Calls prog 87 #[.pointer (some ⟨y,0,none⟩),.int .i64 l] W fun e w'=>e=.returned (.string (bG b (au w l)))/\ab [] W w'):=by
  have:=nQ y l b d a w k S W (hD.Vb V0.kept) hn (by rw[bM w l hn];exact c8);rw[bM w l hn]at this;exact this
 have ac:Hid (mR b w l p (b.getD H jf)=if(p.why==0)=false then⟨bG b (au w l),2,p.why,p.file,p.line,p.col⟩
  else if 0<=ic p.st then⟨bG b (au w l),3,p.why,(bO p.st (ic p.st).toNat).file,(bO p.st (ic p.st).toNat).line,(bO p.st (ic p.st).toNat).col⟩
  else po b w l p.st (bG b (au w l)) (b.getD H jf) p.st.length 0 []):=rfl
 have cy:Hid (∀D:World,ab [] c D->∃gT gs,d=some ⟨gT,0,none⟩/\k=some ⟨gs,0,none⟩/\gT<D.heap.size/\gs<D.heap.size/\y<D.heap.size/\D.cell? ⟨y,0,none⟩=some (.slice d b.length a)/\D.cell? ⟨y,1,none⟩=some (.slice k w.length S)/\D.cell? ⟨gs,l*4+1,none⟩=some (.int .i64 ((H:Int)+1))/\D.cell? ⟨gT,H*5+2,none⟩=some (.string (b.getD H jf).file)/\D.cell? ⟨gT,H*5+3,none⟩=some (.int .i64 (b.getD H jf).line)/\D.cell? ⟨gT,H*5+4,none⟩=some (.int .i64 (b.getD H jf).col)):=fun D kx=>by
  have hd:=fz.Vb HD.out kx;obtain⟨c0,c1,hb⟩:=hd.cells;obtain⟨gs,M,bz,-,q1,-,-⟩:=hd.s.2 l w[l] (QP hn);rw[bM w l hn,c2,show((H+1:Nat):Int)=(H:Int)+1 by omega]at q1;obtain⟨gT,K,bo,-,-,t2,t3,t4⟩:=hd.t.2 H _ (iw b H cL);exact⟨gT,gs,K,M,bo,bz,hb,c0,c1,q1,t2,t3,t4⟩
 have bx:Hid (∀D,ab [] c D->Calls prog 130 #[.agg #[.slice R.ao p.st.length R.cap,.int .i64 p.why,.string p.file,.int .i64 p.line,.int .i64 p.col]] D fun e w'=>e=.returned (.int .i64 (ic p.st))/\ab [] D w'):=fun D kx=>Is p.st R.ao R.cap p.why p.file p.line p.col D (hP.Vb kx) a2
 have co:=Ei p.st;obtain⟨iL,db,ca,cs,cu⟩:=Re Ej;clear hD ok hB cx hE hP a1 V0;obtain⟨m,Hl⟩:∃m,Hid (bG b (au w l)=m):=⟨_,rfl⟩
 rw[Hl.out]at cp ac;obtain⟨V,cF⟩:∃V,Hid (mR b w l p (b.getD H jf)=V):=⟨_,rfl⟩
 rw[cF.out]at ac ⊢;obtain⟨P,bl,pf,pl,pc⟩:=p;simp only at ac bx co a2 bd bv HP;obtain⟨I,J,n,M,K,e5⟩:=a6.out.prf;obtain⟨⟨E,F,G,u,C,B⟩,⟨f0,f1,f2,f3,f4,Z⟩,f⟩:=dZ a6.out.r;obtain⟨⟨z0,O,T,z3,z4,z5⟩,⟨y0,y1,y2,y3,y4,y5⟩,j⟩:=dZ a6.out.z;simp only at E F G u C B;go_enter func89,ntmps89
 go_upto_region 2 with fail
 rw[HW.out]
 go_upto_region 3 with (go_at_call 87;refine QU cp.out ?_;rintro e w1 ⟨rfl,k1⟩;have V1:=a6.out.Vb k1;obtain⟨⟨u0,-⟩,⟨u1,-⟩,u2⟩:=dZ V1.r)
 have al:Hid (A8 c (w1.setCell ⟨c.heap.size+2,0,none⟩ (.string m)) ⟨P,bl,pf,pl,pc⟩ R ⟨m,2,bl,pf,pl,pc⟩):=V1.set 0 (.string m) rfl;obtain⟨X2,ch⟩:∃X2,Hid (w1.setCell ⟨c.heap.size+2,0,none⟩ (.string m)=X2):=⟨_,rfl⟩
 rw[ch.out]at al ⊢;clear V1 u0 u1 u2 k1 ch;clear I J n M K e5 E F G u C B f0 f1 f2 f3 f4 Z f z0 O T z3 z4 z5 y0 y1 y2 y3 y4 y5 j;obtain⟨I,J,n,M,K,e5⟩:=al.out.prf;obtain⟨⟨E,F,G,u,C,B⟩,⟨f0,f1,f2,f3,f4,Z⟩,f⟩:=dZ al.out.r;obtain⟨⟨z0,O,T,z3,z4,z5⟩,⟨y0,y1,y2,y3,y4,y5⟩,j⟩:=dZ al.out.z;simp only at E F G u C B;simp only at I J n M K
 cases hy:(bl==0)
 ·rw[hy,QW rfl]at ac
  have HX:Hid (V=⟨m,2,bl,pf,pl,pc⟩):=ac.out;go_wp2;obtain⟨x0,x1,x2,x3,x4,x5⟩:=ob al.out.z (.string m) (.int .i64 2) (.int .i64 bl) (.string pf) (.int .i64 pl) (.int .i64 pc);exact QY (v:=.agg #[.string m,.int .i64 2,.int .i64 bl,.string pf,.int .i64 pl,.int .i64 pc]) (by simp[results,results89,go_sem,x0,x1,x2,x3,x4,x5]) rfl ⟨by rw[HX.out];rfl,(((((al.out.kept.setCell (QV (by simp)) _).setCell (QV (by simp)) _).setCell (QV (by simp)) _).setCell (QV (by simp)) _).setCell (QV (by simp)) _).setCell (QV (by simp)) _⟩
 ·rw[hy,QT (by simp)]at ac
  have cR:bl=0:=by simpa using hy
  subst cR;have ck:=hI (bx.out X2 al.out.kept)
  go_upto_region 6 with (go_at_call 130;refine QU ck.out ?_;rintro e w3 ⟨rfl,k3⟩)
  have an:=hI (al.out.Vb k3);clear k3;clear I J n M K e5 E F G u C B f0 f1 f2 f3 f4 Z f z0 O T z3 z4 z5 y0 y1 y2 y3 y4 y5 j;obtain⟨I,J,n,M,K,e5⟩:=an.out.prf;obtain⟨⟨E,F,G,u,C,B⟩,⟨f0,f1,f2,f3,f4,Z⟩,f⟩:=dZ an.out.r;obtain⟨⟨z0,O,T,z3,z4,z5⟩,⟨y0,y1,y2,y3,y4,y5⟩,j⟩:=dZ an.out.z;simp only at E F G u C B;simp only at I J n M K
  rcases co with ⟨hh,cq⟩ | ⟨ag,hk,hh⟩
  ·rw[hh,QT (by omega)]at ac
   rw[hh];obtain⟨ea,bT⟩:=bv.out (by trivial);have dl:Hid (∀i,i<P.length->Kv b w l P i):=fun i hi=>bT i hi (cq i hi)
   have dT:Hid (gw w3 w3 ⟨none,0⟩ (lA [])):=⟨QZ _ _ _ _,(by intro ag hk;cases hk),ab.refl _ _⟩;have bc:Hid (po b w l P m (b.getD H jf) (P.length-0) 0 (([]:List Sl).map (·.L))=V):=ac.out.symm;obtain⟨tz,d5⟩:∃tz,Hid (b.getD H jf=tz):=⟨_,rfl⟩
   rw[d5.out]at cy bc;clear bT cq hh ac bv bx ck;go_wp2;clear I J n M K e5 E F G u C B f0 f1 f2 f3 f4 Z f z0 O T z3 z4 z5 y0 y1 y2 y3 y4 y5 j
   go_loopg [9,10] P.length (fun g o iv wr=>∃(i:Nat) (h:Hd) (A:List Sl),i<=P.length/\g=P.length-i/\o=.slice h.ao A.length h.cap/\iv=.int .i64 i/\Hid (A.length=i)/\Hid (∀s∈A,oo wr s)/\Hid (∀s∈A,∀q o,s.ao=some ⟨q,o,none⟩->h.blk≠some q)/\Hid (po b w l P m tz (P.length-i) i (A.map (·.L))=V)/\Hid (gw w3 wr h (lA A)))
   case atStart=>exact⟨0,⟨none,0⟩,[],by omega,rfl,rfl,rfl,rfl,(fun s hs=>by cases hs),(fun s hs=>by cases hs),bc,dT⟩
   case round =>
    obtain⟨i,h,A,hi,hg,rfl,rfl,aS,bp,br,HG,az⟩:=hrel;have ap:=hI (an.out.Vb az.out.kept);have a5:=hI ap.out.kept;obtain⟨I,J,n,M,K,e5⟩:=ap.out.prf;obtain⟨⟨E,F,G,u,C,B⟩,⟨f0,f1,f2,f3,f4,Z⟩,f⟩:=dZ ap.out.r;obtain⟨⟨z0,O,T,z3,z4,z5⟩,⟨y0,y1,y2,y3,y4,y5⟩,j⟩:=dZ ap.out.z;simp only at E F G u C B;simp only at I J n M K
    by_cases a4:i<P.length
    ·have ef:(i:Int)<(P.length:Int):=by omega
     have bj:=hI (JL y l i b d a w k S P R.ao R.cap 0 pf pl pc A h.ao h.cap wr (fz.Vb HD.out a5.out) cP.out ds.out c7.out hn (cm.Vb HP.out a5.out) a2 bd.out a4 (dl.out i a4) (az.out.own.srcG vw) bp.out aS.out);obtain⟨cA,hd⟩:∃cA,P.length-i=cA+1:=⟨P.length-i-1,by omega⟩
     have af:Hid (po b w l P m tz (cA+1) i (A.map (·.L))=V):=by rw[<-hd];exact HG
     rw[po]at af;have df:Hid (P.length-(i+1)=cA):=by show _=_;omega
     clear hd HG;obtain⟨SR,dz⟩:∃SR,Hid (ui b w l P i (A.map (·.L))=SR):=⟨_,rfl⟩
     rw[dz.out]at bj af;obtain⟨sE,sW⟩:=SR;simp only at af
     go_upto_region 15 with (go_at_call 131;refine QU bj.out ?_;rintro e w4 ⟨s,rfl,cl,a7,cb,k4⟩)
     have Y:=hI (ap.out.Vb k4);have b1:=hI (az.out.Vb k4);have ba:Hid (∀s∈A,oo w4 s):=fun s hs=>(bp.out s hs).Vb k4
     have cc:Hid (s.L=sE):=cl;have cE:Hid ((sW==0)=true->oo w4 s):=a7
     have b4:Hid (∀q o,s.ao=some ⟨q,o,none⟩->h.blk≠some q):=fun q o e hb=>by
      rcases cb with hm | hf
      ·exact br.out s hm q o e hb
      ·have:=hf q o e
       have:=az.out.own.lt hb;omega
     clear cl a7 cb k4 bj;clear I J n M K e5 E F G u C B f0 f1 f2 f3 f4 Z f z0 O T z3 z4 z5 y0 y1 y2 y3 y4 y5 j;obtain⟨I,J,n,M,K,e5⟩:=Y.out.prf;obtain⟨⟨E,F,G,u,C,B⟩,⟨f0,f1,f2,f3,f4,Z⟩,f⟩:=dZ Y.out.r;obtain⟨⟨z0,O,T,z3,z4,z5⟩,⟨y0,y1,y2,y3,y4,y5⟩,j⟩:=dZ Y.out.z;simp only at E F G u C B;simp only at I J n M K
     cases hw:(sW==0)
     ·rw[hw,QW rfl]at af
      have HX:Hid (V=⟨m,2,sW,(bO P i).file,(bO P i).line,(bO P i).col⟩):=af.out.symm;obtain⟨gP,ar,ax,-,-,-,q3,q4,q5⟩:=cm.step (cm.Vb HP.out Y.out.kept) i a4
      have HQ:Hid (∀D:World,ab [] c D->gP<D.heap.size/\D.cell? ⟨gP,i*6+3,none⟩=some (.string (bO P i).file)/\D.cell? ⟨gP,i*6+4,none⟩=some (.int .i64 (bO P i).line)/\D.cell? ⟨gP,i*6+5,none⟩=some (.int .i64 (bO P i).col)):=fun D kx=>by
       obtain⟨g2,n,h2,-,-,-,c3,c4,c5⟩:=cm.step (cm.Vb HP.out kx) i a4;rw[ar]at n
       cases n
       exact⟨h2,c3,c4,c5⟩
      generalize (bO P i).file=sf at *;generalize (bO P i).line=sl at *;generalize (bO P i).col=sc at *;clear ax q3 q4 q5
      go_upto_region 17 with fail
      have N:Hid (A8 c (w4.setCell ⟨c.heap.size+2,2,none⟩ (.int .i64 sW)) ⟨P,0,pf,pl,pc⟩ R ⟨m,2,sW,pf,pl,pc⟩):=Y.out.set 2 (.int .i64 sW) rfl;obtain⟨X4,bk⟩:∃X4,Hid (w4.setCell ⟨c.heap.size+2,2,none⟩ (.int .i64 sW)=X4):=⟨_,rfl⟩
      rw[bk.out]at N ⊢;clear I J n M K e5 E F G u C B f0 f1 f2 f3 f4 Z f z0 O T z3 z4 z5 y0 y1 y2 y3 y4 y5 j;obtain⟨I,J,n,M,K,e5⟩:=N.out.prf;obtain⟨⟨E,F,G,u,C,B⟩,⟨f0,f1,f2,f3,f4,Z⟩,f⟩:=dZ N.out.r;obtain⟨⟨z0,O,T,z3,z4,z5⟩,⟨y0,y1,y2,y3,y4,y5⟩,j⟩:=dZ N.out.z;simp only at E F G u C B;simp only at I J n M K;obtain⟨ax,q3,q4,q5⟩:=HQ.out X4 N.out.kept;rw[ar]at I
      go_upto_region 18 with fail
      have U:Hid (A8 c (((X4.setCell ⟨c.heap.size+2,3,none⟩ (.string sf)).setCell ⟨c.heap.size+2,4,none⟩ (.int .i64 sl)).setCell ⟨c.heap.size+2,5,none⟩ (.int .i64 sc)) ⟨P,0,pf,pl,pc⟩ R ⟨m,2,sW,sf,sl,sc⟩):=((N.out.set (r':=⟨m,2,sW,sf,pl,pc⟩) 3 (.string sf) rfl).set (r':=⟨m,2,sW,sf,sl,pc⟩) 4 (.int .i64 sl) rfl).set 5 (.int .i64 sc) rfl;obtain⟨X5,bf⟩:∃X5,Hid (((X4.setCell ⟨c.heap.size+2,3,none⟩ (.string sf)).setCell ⟨c.heap.size+2,4,none⟩ (.int .i64 sl)).setCell ⟨c.heap.size+2,5,none⟩ (.int .i64 sc)=X5):=⟨_,rfl⟩
      rw[bf.out]at U ⊢;clear I J n M K e5 E F G u C B f0 f1 f2 f3 f4 Z f z0 O T z3 z4 z5 y0 y1 y2 y3 y4 y5 j;obtain⟨I,J,n,M,K,e5⟩:=U.out.prf;obtain⟨⟨E,F,G,u,C,B⟩,⟨f0,f1,f2,f3,f4,Z⟩,f⟩:=dZ U.out.r;obtain⟨⟨z0,O,T,z3,z4,z5⟩,⟨y0,y1,y2,y3,y4,y5⟩,j⟩:=dZ U.out.z;simp only at E F G u C B;go_wp2;obtain⟨x0,x1,x2,x3,x4,x5⟩:=ob U.out.z (.string m) (.int .i64 2) (.int .i64 sW) (.string sf) (.int .i64 sl) (.int .i64 sc);exact QY (v:=.agg #[.string m,.int .i64 2,.int .i64 sW,.string sf,.int .i64 sl,.int .i64 sc]) (by simp[results,results89,go_sem,x0,x1,x2,x3,x4,x5]) rfl ⟨by rw[HX.out];rfl,(((((U.out.kept.setCell (QV (by simp)) _).setCell (QV (by simp)) _).setCell (QV (by simp)) _).setCell (QV (by simp)) _).setCell (QV (by simp)) _).setCell (QV (by simp)) _⟩
     ·rw[hw,QT (by simp)]at af
      have cX:sW=0:=by simpa using hw
      subst cX;have b6:=hI (cE.out rfl);rw[<-cc.out]at af;have cH:Hid (([.slice s.ao sE.length s.cap]:List Value)=Ff s):=by show _=_;unfold Ff;rw[cc.out]
      have d0:=b1.out.own;have dt:Hid ((lA A).n<=900000000):=by show A.length<=_;rw[aS.out];omega
      go_wp2_with (at_builtin;refine bN _ rfl (.tmp 71) (.tmp 73) 218 rfl iL (.slice none 0 0) 24 h (lA A) [.slice s.ao sE.length s.cap] underlying218 db ca cs cu rfl Rc rfl d0 dt.out (by omega) rfl rfl (by simp[Value.oneCell']) ?_;intro h7 w7 be a3;rw[cH.out,qw]at be;have c6:=hI (b1.out.Vl a3 be);have ct:=hI (Ob a3 ba.out br.out b6.out b4.out);have b0:=hI (M8 a3 ba.out br.out b6.out b4.out);clear be a3)
      go_roundg (P.length-(i+1))
      case measure=>omega
      case rel=>exact⟨i+1,h7,A++[s],by omega,rfl,by simp[lA,kU],by go_num,by show _=_;rw[Q0,aS.out];rfl,ct,b0,by rw[df.out,Ry];exact af,c6⟩
    ·obtain⟨q,hq⟩:∃q,P.length=q+1:=⟨P.length-1,by omega⟩
     have d6:¬(i:Int)<(P.length:Int):=by omega
     have eh:IntKind.i64.wrap ((P.length:Int)-1)=(q:Int):=by rw[R9];omega
     have af:Hid (xt b w l P m tz (A.map (·.L))=V):=by have:=HG.out;rw[show P.length-i=0 by omega,po]at this;exact this
     have ad:Hid (xt b w l P m tz (A.map (·.L))=if(dS P q==0)=false then⟨m,2,11,tz.file,tz.line,tz.col⟩ else if oc (cI b w l) (fQ A q).L=false then⟨m,2,12,tz.file,tz.line,tz.col⟩ else⟨m,4,0,⟨#[]⟩,0,0⟩):=by show _=_;unfold xt;rw[show P.length-1=q by omega,wF A q (by rw[aS.out];omega)]
     have b5:q<A.length:=by rw[aS.out];omega
     have d7:(q:Int)<(A.length:Int):=by omega
     have dk:q<P.length:=by omega
     have d8:(0:Int)<=(q:Int):=by omega
     clear hq HG;rw[af.out]at ad;have cj:=hI (tJ P R.ao R.cap 0 pf pl pc a2 bd.out (q+1) q wr (by omega) dk (cm.Vb HP.out a5.out));generalize dS P q=bg at *
     have b2:Hid (∀D,ab [] c D->Calls prog 72 #[.pointer (some ⟨y,0,none⟩),.int .i64 (l:Int)] D fun e w'=>∃h',e=.returned (.slice h'.ao (cI b w l).length h'.cap)/\vj D w' h' (cI b w l)):=fun D kx=>by
      have:=kD y l b d a w k S D (fz.Vb HD.out kx) hn (by omega) (by rw[bM w l hn];exact d4.out);rw[bM w l hn]at this;exact this
     have d1:(cI b w l).length<=b.length:=kg b _;obtain⟨X,cV⟩:∃X,Hid (cI b w l=X):=⟨_,rfl⟩
     rw[cV.out]at b2 d1 ad
     go_upto_region 22 with (go_at_call 132;refine QU cj.out ?_;rintro e w4 ⟨rfl,k4⟩)
     have b3:=hI (b2.out w4 (a5.out.trans k4))
     go_upto_region 23 with (go_at_call 72;refine QU b3.out ?_;rintro e w5 ⟨h5,rfl,x5⟩)
     have k5:=k4.trans x5.kept;have N:=hI (ap.out.Vb k5);obtain⟨gA,d2,dv,d3⟩:=cm.sl ((az.out.Vb k5).own.srcG vw) q b5;have c9:=(show Hid _ from(bp.out (fQ A q) (jK A q b5)).Vb k5);have bw:=hI (C0 X (fQ A q).L h5.ao (fQ A q).ao h5.cap (fQ A q).cap w5 x5.own.srcX c9.out.x (by omega));generalize fQ A q=s at *;obtain⟨sm,dp⟩:∃sm,Hid (oc X s.L=sm):=⟨_,rfl⟩
     rw[dp.out]at bw ad;rw[d2];clear k4 k5 x5 b3 cj;clear I J n M K e5 E F G u C B f0 f1 f2 f3 f4 Z f z0 O T z3 z4 z5 y0 y1 y2 y3 y4 y5 j
     go_upto_region 24 with (go_at_call 133;refine QU bw.out ?_;rintro e w6 ⟨rfl,k6⟩)
     have U:=hI (N.out.Vb k6);clear k6 d3 dv bw;obtain⟨I,J,n,M,K,e5⟩:=U.out.prf;obtain⟨⟨E,F,G,u,C,B⟩,⟨f0,f1,f2,f3,f4,Z⟩,f⟩:=dZ U.out.r;obtain⟨⟨z0,O,T,z3,z4,z5⟩,⟨y0,y1,y2,y3,y4,y5⟩,j⟩:=dZ U.out.z;simp only at E F G u C B;simp only at I J n M K;obtain⟨gT,gs,rfl,rfl,bo,bz,cB,c0,c1,q1,t2,t3,t4⟩:=cy.out w6 U.out.kept;have ei:(l:Int)<(w.length:Int):=by omega
     have eg:(H:Int)<(b.length:Int):=by omega
     obtain⟨ts,tr,tf,tl,tc⟩:=tz;simp only at t2 t3 t4 ad;have ai:Hid (A8 c (((w6.setCell ⟨c.heap.size+2,3,none⟩ (.string tf)).setCell ⟨c.heap.size+2,4,none⟩ (.int .i64 tl)).setCell ⟨c.heap.size+2,5,none⟩ (.int .i64 tc)).drew ⟨P,0,pf,pl,pc⟩ R ⟨m,2,0,tf,tl,tc⟩):=(((U.out.set (r':=⟨m,2,0,tf,pl,pc⟩) 3 (.string tf) rfl).set (r':=⟨m,2,0,tf,tl,pc⟩) 4 (.int .i64 tl) rfl).set (r':=⟨m,2,0,tf,tl,tc⟩) 5 (.int .i64 tc) rfl).Vb (ab.refl [] _).drew
     go_region
     obtain⟨X7,cz⟩:∃X7,Hid ((((w6.setCell ⟨c.heap.size+2,3,none⟩ (.string tf)).setCell ⟨c.heap.size+2,4,none⟩ (.int .i64 tl)).setCell ⟨c.heap.size+2,5,none⟩ (.int .i64 tc)).drew=X7):=⟨_,rfl⟩
     rw[cz.out]at ai ⊢;clear I J n M K e5 E F G u C B f0 f1 f2 f3 f4 Z f z0 O T z3 z4 z5 y0 y1 y2 y3 y4 y5 j;clear bo bz cB c0 c1 q1 t2 t3 t4 cz;obtain⟨I,J,n,M,K,e5⟩:=ai.out.prf;obtain⟨⟨E,F,G,u,C,B⟩,⟨f0,f1,f2,f3,f4,Z⟩,f⟩:=dZ ai.out.r;obtain⟨⟨z0,O,T,z3,z4,z5⟩,⟨y0,y1,y2,y3,y4,y5⟩,j⟩:=dZ ai.out.z;simp only at E F G u C B;simp only at I J n M K
     cases cf:(bg==0)
     ·rw[cf,QW rfl]at ad
      have HX:Hid (V=⟨m,2,11,tf,tl,tc⟩):=ad.out
      go_upto_region 27 with fail
      have Q:Hid (A8 c (X7.setCell ⟨c.heap.size+2,2,none⟩ (.int .i64 11)) ⟨P,0,pf,pl,pc⟩ R ⟨m,2,11,tf,tl,tc⟩):=ai.out.set 2 (.int .i64 11) rfl;obtain⟨X8,bs⟩:∃X8,Hid (X7.setCell ⟨c.heap.size+2,2,none⟩ (.int .i64 11)=X8):=⟨_,rfl⟩
      rw[bs.out]at Q ⊢;clear I J n M K e5 E F G u C B f0 f1 f2 f3 f4 Z f z0 O T z3 z4 z5 y0 y1 y2 y3 y4 y5 j;obtain⟨I,J,n,M,K,e5⟩:=Q.out.prf;obtain⟨⟨E,F,G,u,C,B⟩,⟨f0,f1,f2,f3,f4,Z⟩,f⟩:=dZ Q.out.r;obtain⟨⟨z0,O,T,z3,z4,z5⟩,⟨y0,y1,y2,y3,y4,y5⟩,j⟩:=dZ Q.out.z;simp only at E F G u C B;go_wp2;obtain⟨x0,x1,x2,x3,x4,x5⟩:=ob Q.out.z (.string m) (.int .i64 2) (.int .i64 11) (.string tf) (.int .i64 tl) (.int .i64 tc);exact QY (v:=.agg #[.string m,.int .i64 2,.int .i64 11,.string tf,.int .i64 tl,.int .i64 tc]) (by simp[results,results89,go_sem,x0,x1,x2,x3,x4,x5]) rfl ⟨by rw[HX.out];rfl,(((((Q.out.kept.setCell (QV (by simp)) _).setCell (QV (by simp)) _).setCell (QV (by simp)) _).setCell (QV (by simp)) _).setCell (QV (by simp)) _).setCell (QV (by simp)) _⟩
     ·rw[cf,QT (by simp)]at ad
      cases sm
      ·rw[QW rfl]at ad
       have HX:Hid (V=⟨m,2,12,tf,tl,tc⟩):=ad.out
       go_upto_region 30 with fail
       have Q:Hid (A8 c (X7.setCell ⟨c.heap.size+2,2,none⟩ (.int .i64 12)) ⟨P,0,pf,pl,pc⟩ R ⟨m,2,12,tf,tl,tc⟩):=ai.out.set 2 (.int .i64 12) rfl;obtain⟨X8,bs⟩:∃X8,Hid (X7.setCell ⟨c.heap.size+2,2,none⟩ (.int .i64 12)=X8):=⟨_,rfl⟩
       rw[bs.out]at Q ⊢;clear I J n M K e5 E F G u C B f0 f1 f2 f3 f4 Z f z0 O T z3 z4 z5 y0 y1 y2 y3 y4 y5 j;obtain⟨I,J,n,M,K,e5⟩:=Q.out.prf;obtain⟨⟨E,F,G,u,C,B⟩,⟨f0,f1,f2,f3,f4,Z⟩,f⟩:=dZ Q.out.r;obtain⟨⟨z0,O,T,z3,z4,z5⟩,⟨y0,y1,y2,y3,y4,y5⟩,j⟩:=dZ Q.out.z;simp only at E F G u C B;go_wp2;obtain⟨x0,x1,x2,x3,x4,x5⟩:=ob Q.out.z (.string m) (.int .i64 2) (.int .i64 12) (.string tf) (.int .i64 tl) (.int .i64 tc);exact QY (v:=.agg #[.string m,.int .i64 2,.int .i64 12,.string tf,.int .i64 tl,.int .i64 tc]) (by simp[results,results89,go_sem,x0,x1,x2,x3,x4,x5]) rfl ⟨by rw[HX.out];rfl,(((((Q.out.kept.setCell (QV (by simp)) _).setCell (QV (by simp)) _).setCell (QV (by simp)) _).setCell (QV (by simp)) _).setCell (QV (by simp)) _).setCell (QV (by simp)) _⟩
      ·rw[QT (by simp)]at ad
       have HX:Hid (V=⟨m,4,0,⟨#[]⟩,0,0⟩):=ad.out;go_wp2;obtain⟨x0,x1,x2,x3,x4,x5⟩:=ob ai.out.z (.string m) (.int .i64 4) (.int .i64 0) (.string ⟨#[]⟩) (.int .i64 0) (.int .i64 0);exact QY (v:=.agg #[.string m,.int .i64 4,.int .i64 0,.string ⟨#[]⟩,.int .i64 0,.int .i64 0]) (by simp[results,results89,go_sem,x0,x1,x2,x3,x4,x5]) rfl ⟨by rw[HX.out];rfl,(((((ai.out.kept.setCell (QV (by simp)) _).setCell (QV (by simp)) _).setCell (QV (by simp)) _).setCell (QV (by simp)) _).setCell (QV (by simp)) _).setCell (QV (by simp)) _⟩
  ·rw[hh,QW (by omega),Sa]at ac
   rw[hh];have eb:(0:Int)<=(ag:Int):=by omega
   have ej:(ag:Int)<(P.length:Int):=by omega
   have HX:Hid (V=⟨m,3,0,(bO P ag).file,(bO P ag).line,(bO P ag).col⟩):=ac.out;obtain⟨gP,ar,ax,-,-,-,q3,q4,q5⟩:=cm.step (cm.Vb HP.out an.out.kept) ag hk
   have HQ:Hid (∀D:World,ab [] c D->gP<D.heap.size/\D.cell? ⟨gP,ag*6+3,none⟩=some (.string (bO P ag).file)/\D.cell? ⟨gP,ag*6+4,none⟩=some (.int .i64 (bO P ag).line)/\D.cell? ⟨gP,ag*6+5,none⟩=some (.int .i64 (bO P ag).col)):=fun D kx=>by
    obtain⟨g2,n,h2,-,-,-,c3,c4,c5⟩:=cm.step (cm.Vb HP.out kx) ag hk;rw[ar]at n
    cases n
    exact⟨h2,c3,c4,c5⟩
   generalize (bO P ag).file=sf at *;generalize (bO P ag).line=sl at *;generalize (bO P ag).col=sc at *;clear ax q3 q4 q5
   go_upto_region 8 with fail
   have Y:Hid (A8 c (w3.setCell ⟨c.heap.size+2,1,none⟩ (.int .i64 3)) ⟨P,0,pf,pl,pc⟩ R ⟨m,3,0,pf,pl,pc⟩):=an.out.set 1 (.int .i64 3) rfl;obtain⟨X4,bk⟩:∃X4,Hid (w3.setCell ⟨c.heap.size+2,1,none⟩ (.int .i64 3)=X4):=⟨_,rfl⟩
   rw[bk.out]at Y ⊢;clear I J n M K e5 E F G u C B f0 f1 f2 f3 f4 Z f z0 O T z3 z4 z5 y0 y1 y2 y3 y4 y5 j;obtain⟨I,J,n,M,K,e5⟩:=Y.out.prf;obtain⟨⟨E,F,G,u,C,B⟩,⟨f0,f1,f2,f3,f4,Z⟩,f⟩:=dZ Y.out.r;obtain⟨⟨z0,O,T,z3,z4,z5⟩,⟨y0,y1,y2,y3,y4,y5⟩,j⟩:=dZ Y.out.z;simp only at E F G u C B;simp only at I J n M K;obtain⟨ax,q3,q4,q5⟩:=HQ.out X4 Y.out.kept;rw[ar]at I
   go_upto_region 9 with fail
   have N:Hid (A8 c (((X4.setCell ⟨c.heap.size+2,3,none⟩ (.string sf)).setCell ⟨c.heap.size+2,4,none⟩ (.int .i64 sl)).setCell ⟨c.heap.size+2,5,none⟩ (.int .i64 sc)) ⟨P,0,pf,pl,pc⟩ R ⟨m,3,0,sf,sl,sc⟩):=((Y.out.set (r':=⟨m,3,0,sf,pl,pc⟩) 3 (.string sf) rfl).set (r':=⟨m,3,0,sf,sl,pc⟩) 4 (.int .i64 sl) rfl).set 5 (.int .i64 sc) rfl;obtain⟨X5,bf⟩:∃X5,Hid (((X4.setCell ⟨c.heap.size+2,3,none⟩ (.string sf)).setCell ⟨c.heap.size+2,4,none⟩ (.int .i64 sl)).setCell ⟨c.heap.size+2,5,none⟩ (.int .i64 sc)=X5):=⟨_,rfl⟩
   rw[bf.out]at N ⊢;clear I J n M K e5 E F G u C B f0 f1 f2 f3 f4 Z f z0 O T z3 z4 z5 y0 y1 y2 y3 y4 y5 j;obtain⟨I,J,n,M,K,e5⟩:=N.out.prf;obtain⟨⟨E,F,G,u,C,B⟩,⟨f0,f1,f2,f3,f4,Z⟩,f⟩:=dZ N.out.r;obtain⟨⟨z0,O,T,z3,z4,z5⟩,⟨y0,y1,y2,y3,y4,y5⟩,j⟩:=dZ N.out.z;simp only at E F G u C B;go_wp2;obtain⟨x0,x1,x2,x3,x4,x5⟩:=ob N.out.z (.string m) (.int .i64 3) (.int .i64 0) (.string sf) (.int .i64 sl) (.int .i64 sc);exact QY (v:=.agg #[.string m,.int .i64 3,.int .i64 0,.string sf,.int .i64 sl,.int .i64 sc]) (by simp[results,results89,go_sem,x0,x1,x2,x3,x4,x5]) rfl ⟨by rw[HX.out];rfl,(((((N.out.kept.setCell (QV (by simp)) _).setCell (QV (by simp)) _).setCell (QV (by simp)) _).setCell (QV (by simp)) _).setCell (QV (by simp)) _).setCell (QV (by simp)) _⟩
structure fB(w:World)(v:Nat)(fs:Fs)(h:Hd)(on:Bool)(p2 p3 p4:Value):Prop where
 d:w.heap[v]?=some (.cells #[.slice h.ao fs.length h.cap,.bool on,p2,p3,p4] 85 (0,0))
 own:aw w h (cr fs)
 far:h.blk≠some v
 le:fs.length<=4
theorem fB.Vb(a:fB f n D T y7 N g z6)(k:ab [] f x):fB x n D T y7 N g z6 :=
 ⟨k.get a.d (by simp),a.own.Vb k,a.far,a.le⟩
def DC(w:World)(v:Nat)(h:Hd)(fs:Fs):Prop:=∃on p2 p3 p4,fB w v fs h on p2 p3 p4
theorem fB.keptS(a:fB f n D T y7 N g z6)(k:ab y6 f x)(c:n∉y6)(e:∀q,T.blk=some q->q∉y6):fB x n D T y7 N g z6 :=
 ⟨k.get a.d c,a.own.Vg (fun q b=>k.block q (a.own.lt b) (e q b)),a.far,a.le⟩
theorem aw.putAt{r:dN}(o:aw f T r)(c:T.ao=some ⟨n,0,none⟩)(j:Nat)(v:Value):aw (f.setCell ⟨n,j,none⟩ v) T ⟨r.e,r.size,r.n,r.xs.set j v⟩:=by
 refine⟨by rw[Rv];exact o.1,?_⟩
 rcases o.2 with ⟨d,s⟩ | ⟨u,g,a,d,l,m,i,k,q,p⟩
 ·injection d with b
  rw[b]at c;cases c
 ·injection d with b t h
  rw[b]at c
  cases c
  refine QV ⟨n,g,a.setIfInBounds j v,by rw[b,h],l,by rw[ah m],i,k,by rw[Array.size_setIfInBounds];exact q,?_⟩;rw[TN]
  show(a.toList.set j v).take (r.n*r.size)=r.xs.set j v
  rw[<-p,UM]
theorem aw.srcFi(o:aw f T (cr D)):mV f T.ao T.cap D:=by
 refine⟨?_,fun k i=>?_⟩
 ·rcases o.Vm with ⟨e,b,_⟩ | ⟨g,j,m,n,l,-⟩
  ·have b:D.length=0:=b
   omega
  ·exact l
 ·obtain⟨g,a,d,-⟩:=qq o (show 0<D.length by omega)
  obtain⟨c,h⟩:=v9 D k i;exact⟨g,a,d,o.cell a (k*2) _ c,o.cell a (k*2+1) _ h⟩
theorem IX(w:World) :
  Calls prog 28 #[] w fun e a=>e=.returned (.pointer (some ⟨w.heap.size,0,none⟩))/\fB a w.heap.size [] ⟨none,0⟩ false (.pointer none) (.slice none 0 0) (.slice none 0 0)/\ab [] w a:=by
 have b:Hid (fB (w.alloc (.cells #[.slice none 0 0,.bool false,.pointer none,.slice none 0 0,.slice none 0 0] 85)) w.heap.size [] ⟨none,0⟩ false (.pointer none) (.slice none 0 0) (.slice none 0 0)):=⟨QS _ _,QZ _ _ _ _,(by intro e;cases e),by simp⟩;go_enter func28,ntmps28;go_wp2;go_ret;exact⟨rfl,b.out,(ab.refl [] _).alloc _⟩
end Go.Proofs.YtpddjjabfbfifaaGreat
