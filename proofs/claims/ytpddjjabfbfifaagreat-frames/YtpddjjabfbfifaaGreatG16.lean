import Derived.Test.YtpddjjabfbfifaaGreatG15
namespace Go.Proofs.YtpddjjabfbfifaaGreat
open Go.RowKit Tryz
set_option maxRecDepth 100000
set_option maxHeartbeats 40000000
variable{f x:World}{v:Sl}{T z7:Hd}{n zb:Nat}{I:List Sl}{i:List ByteArray}{y6:List Nat}{N g z6:Value}{o:jS}{D:Fs}{y7:Bool}(y l H:Nat)(b:List Tk)(d:Option Addr)(a:Nat)(w:List Sm)(M:List ByteArray)(L:List (List ByteArray))(k:Option Addr)(S:Nat)
def LG(T:List Tk)(S:List Sm)(hs:List Nat)(M:List (List ByteArray))(V:List ByteArray)(B:List (List ByteArray))(i:Nat):Int :=
 if GG S hs i=true then(if(((M.getD i []).getD 0 ⟨#[]⟩).toList==((cI T S (hs.getD i 0)).getD 0 ⟨#[]⟩).toList)=true then 0 else 7)
 else if ob (iU V B (cI T S (hs.getD i 0))) (M.getD i [])=true then 0 else 8
def OD(T:List Tk)(S:List Sm)(a:Nat)(V:List ByteArray)(B:List (List ByteArray))(p:ByteArray×ByteArray):Bool:=tK T S a (iU V B [p.1]) (iU V B [p.2])
def pO(T:List Tk)(S:List Sm)(a c:Nat)(hs:List Nat)(M:List (List ByteArray))(V:List ByteArray)(B:List (List ByteArray)):Int :=
 if(dJ (LG T S hs M V B) hs.length==0)=false then dJ (LG T S hs M V B) hs.length else if(fH T S c).all (OD T S a V B)=true then 0 else 9
theorem pQ(x:ByteArray)(N:Nat)(b:∀l∈L,l.length<=N)(a:1<=N):(iU M L [x]).length<=N:=by
 unfold iU;rw[RH,List.flatMap_nil,Rk];unfold LY
 split
 ·rw[QP]
  cases h:L[wo M x]? with
  | none=>simp
  | some l=>exact b l (R2 h)
 ·simpa using a
theorem NY(b:∀l∈L,l.length<=S)(a:1<=S)(e:List ByteArray):(iU M L e).length<=S*e.length:=by
 induction e with
 | nil=>exact Rn _
 | cons x e d =>
  have f:=pQ M L x S b a;have c:iU M L (x :: e)=iU M L [x]++iU M L e:=by unfold iU;simp
  rw[c,QZ,Ro,Nat.mul_succ];omega
theorem yV(V:List ByteArray)(a:V.length<=10000)(k:Nat):(ld b w S V k).length<=10000*k:=by
 induction k with
 | zero=>simp[ld]
 | succ k c =>
  have:=EU b w S V k V.length;rw[wN,QZ];omega
theorem Jb(c:S<=10000):(fH b w S).length<=100000000:=by
 have a:=ki b w S
 have d:(fO b w (bW b w S) (bW b w S).length).length<=(bW b w S).length:=by
  unfold fO;rw[Rh,RI];exact Sb _ _
 have:=yV b w S (fO b w (bW b w S) (bW b w S).length) (by omega) (fO b w (bW b w S) (bW b w S).length).length;unfold fH;omega
theorem QN(f:List Nat)(bj:Option Addr)(cH:Nat)(A:List Sl)(a6:Option Addr)(cA:Nat)(V:List ByteArray)(K:Option Addr)(cV:Nat)(B:List Sl)(J:Option Addr)(cB:Nat)(C:World)(hD:fz C y b d a w k S)(ok:nJ b w l)(c3:H<l)(cq:bS (au w H).k=false)(hH:qC C bj f)(G:∀j∈f,j<l/\bS (au w j).k=false)(eh:f.length<=10000)(hA:cm C a6 1 Fd A)(b0:o8 C A)(bp:∀s∈A,ge C s.ao s.L)(d1:f.length<=A.length)(d5:A.length<=100000)(hF:∀i,i<f.length->GG w f i=true->1<(cI b w (f.getD i 0)).length)(hN:∀s∈A,0<s.L.length/\s.L.length<=10000)(hV:ge C K V)(hB:cm C J 1 Fd B)(bx:o8 C B)(cl:V.length<=B.length)(cF:B.length<=100000)(ba:∀s∈B,s.L.length<=10000) :
  Calls prog 178 #[.pointer (some ⟨y,0,none⟩),.int .i64 l,.int .i64 H,.slice bj f.length cH,.slice a6 A.length cA,.agg #[.slice K V.length cV,.slice J B.length cB]] C fun e u=>e=.returned (.int .i64 (pO b w l H f (A.map (·.L)) V (B.map (·.L))))/\ab [] C u:=by
 obtain⟨W,HW⟩:∃W,Hid (C.alloc (.cells #[.slice K V.length cV,.slice J B.length cB] 271)=W):=⟨_,rfl⟩
 have BW:W.heap[C.heap.size]?=some (.cells #[.slice K V.length cV,.slice J B.length cB] 271 (0,0)):=by rw[<-HW.out];exact QR _ _
 have r:Hid (ab [] C W):=by show ab [] C W;rw[<-HW.out];exact(ab.refl [] _).alloc _
 have hn:=ok.ok.m;have ej:=ok.sm;have d9:=ok.tm;have b2:=hI BW;have HD:=hI (hD.Va r.out);have aS:=hI ok;have HH:=hI (hH.Va r.out);have c9:=hI G;have HA:=hI (hA.Va r.out);have d2:=hI (b0.Va r.out);have c6:Hid (∀s∈A,∀wx,ab [] C wx->ge wx s.ao s.L):=fun s f wx kx=>(bp s f).Va kx
 have HF:=hI hF;have HN:=hI hN;obtain⟨M,b4⟩:∃M,Hid (A.map (·.L)=M):=⟨_,rfl⟩
 obtain⟨o,a4⟩:∃o,Hid (B.map (·.L)=o):=⟨_,rfl⟩
 have bd:Hid (∀(E:List ByteArray) (ag:Option Addr) (cE:Nat) (wx:World),ab [] C wx->ge wx ag E->E.length<=10000->Calls prog 179 #[.agg #[.slice K V.length cV,.slice J B.length cB],.slice ag E.length cE] wx fun e u=>∃h',e=.returned (.slice h'.ao (iU V o E).length h'.cap)/\gw wx u h' (aB (iU V o E))):=fun E ag cE wx kx hE hl=>by rw[<-a4.out];exact CK V K cV B J cB E ag cE wx (hV.Va kx) (hB.Va kx) (bx.Va kx) cl cF hE hl ba
 have T:Hid (∀dt∈o,dt.length<=10000):=fun dt hl=>by
  rw[<-a4.out]at hl;obtain⟨s,f,rfl⟩:=Sh.1 hl;exact ba s f
 have c7:Hid (∀c,c<A.length->M.getD c []=(fQ A c).L):=fun c hk=>by rw[<-b4.out];exact wE A c hk
 rw[b4.out,a4.out];have co:=hI (wH y H b d a w k S);have cj:Hid (cU b (au w H).h):=ok.e H c3 cq;have HR:Hid (pO b w l H f M V o=if(dJ (LG b w f M V o) f.length==0)=false then dJ (LG b w f M V o) f.length else if(fH b w H).all (OD b w l V o)=true then 0 else 9):=rfl;clear hD ok hH G hA b0 bp hF hN hV hB bx ba;go_enter func178,ntmps178
 go_upto_region 1 with fail
 rw[HW.out];go_wp2
 go_loopg [13] f.length (fun g i wr=>∃c:Nat,c<=f.length/\g=f.length-c/\i=.int .i64 c/\Hid (dJ (LG b w f M V o) c=0)/\Hid (ab [] W wr))
 case atStart=>exact⟨0,by omega,rfl,rfl,rfl,ab.refl _ _⟩
 case round =>
  obtain⟨c,hk,hg,rfl,HZ,HK⟩:=hrel;have d4:=hI (r.out.trans HK.out)
  by_cases G:c<f.length
  ·have ct:(c:Int)<(f.length:Int):=by omega
   obtain⟨c4,bg⟩:=c9.out f[c] (Ra G);have U:f[c]<w.length:=by omega
   have a0:f.getD c 0=f[c]:=by rw[QP,QO G];rfl
   obtain⟨gH,rfl,cR,c8⟩:=(qC.Va HH.out HK.out) c f[c] (QO G);have ax:Hid (Calls prog 72 #[.pointer (some ⟨y,0,none⟩),.int .i64 ((f[c]:Nat):Int)] wr fun e u=>∃h',e=.returned (.slice h'.ao (bu b w[f[c]].h).length h'.cap)/\vi wr u h' (bu b w[f[c]].h)):=kC y f[c] b d a w _ S wr (fz.Va HD.out HK.out) U (by omega) (by rw[bM w f[c] U];exact aS.out.e f[c] c4 bg);have cf:Hid (bu b w[f[c]].h=cI b w (f.getD c 0)):=by show _=_;unfold cI;rw[a0,bM w f[c] U]
   have bz:=ke b w[f[c]].h;rw[cf.out]at ax bz;have ca:Hid (GG w f c=(w[f[c]].k.toList == [36,102])):=by show _=_;unfold GG;rw[a0,bM w f[c] U]
   have aT:=hI (HF.out c G)
   have df:Hid (∀u:World,ab [] W u->u.cell? ⟨gH,c,none⟩=some (.int .i64 ((f[c]:Nat):Int))/\gH<u.heap.size/\∃gs,k=some ⟨gs,0,none⟩/\gs<u.heap.size/\u.cell? ⟨y,1,none⟩=some (.slice k w.length S)/\y<u.heap.size/\u.cell? ⟨gs,f[c]*4+3,none⟩=some (.string w[f[c]].k)):=fun u kw=>by
    obtain⟨g2,e2,h2,c2⟩:=(qC.Va HH.out kw) c f[c] (QO G)
    cases e2
    have hd:=fz.Va HD.out kw;obtain⟨-,s0,hb⟩:=hd.cells;obtain⟨gs,e3,ad,-,-,-,q3⟩:=hd.s.2 f[c] w[f[c]] (QO U);exact⟨c2,h2,gs,e3,ad,s0,hb,q3⟩
   have af:c<A.length:=by omega
   have n:Hid (LG b w f M V o c=if GG w f c=true then(if(((fQ A c).L.getD 0 ⟨#[]⟩).toList==((cI b w (f.getD c 0)).getD 0 ⟨#[]⟩).toList)=true then 0 else 7) else if ob (iU V o (cI b w (f.getD c 0))) (fQ A c).L=true then 0 else 8):=by show _=_;unfold LG;rw[c7.out c af]
   have F:Hid ((LG b w f M V o c==0)=false->pO b w l H f M V o=LG b w f M V o c):=fun h=>by
    have:=oq HZ.out h G;rw[HR.out,this,QV h]
   have ai:Hid (LG b w f M V o c=0->dJ (LG b w f M V o) (c+1)=0):=fun h=>by rw[dJ,HZ.out];exact h
   rw[ca.out]at n aT;clear cf ca a0 bg;have ef:((f[c]:Nat):Int)<(w.length:Int):=by omega
   have eg:(0:Int)<=((f[c]:Nat):Int):=by omega
   obtain⟨X,HX⟩:∃X,Hid (cI b w (f.getD c 0)=X):=⟨_,rfl⟩
   rw[HX.out]at ax bz n aT;generalize w[f[c]].k=sk at *;generalize f[c]=j at *
   go_upto_region 5 with (go_at_call 72;refine QT ax.out ?_;rintro e w1 ⟨h1,rfl,x1⟩)
   have bf:=hI (HK.out.trans x1.kept);have ch:=hI x1.own.srcX;obtain⟨bs,ar,gs,rfl,ad,s0,cc,q3⟩:=df.out w1 bf.out;obtain⟨a1,c1⟩:=h1;clear c8 cR x1;have bo:=HN.out (fQ A c) (jK A c af);have Z:=hI (c6.out (fQ A c) (jK A c af));have be:Hid (∀u:World,ab [] W u->∃gA,a6=some ⟨gA,0,none⟩/\gA<u.heap.size/\u.cell? ⟨gA,c,none⟩=some (.slice (fQ A c).ao (fQ A c).L.length (fQ A c).cap)):=fun u kw=>cm.sl (cm.Va HA.out kw) c af
   have dT:(c:Int)<(A.length:Int):=by omega
   generalize fQ A c=s at *;obtain⟨cz,b5,sL⟩:=s;simp only at Z be bo n;obtain⟨dp,ea⟩:=bo
   cases hf:(sk.toList == [36,102])
   ·rw[hf,QS (by simp)]at n
    go_quiet (fail)
    obtain⟨Q,O⟩:∃Q,Hid (w1.drewN nq=Q):=⟨_,rfl⟩
    go_upto_region 8 with fail
    rw[O.out];have k2:ab [] w1 Q:=by rw[<-O.out];exact(ab.refl [] w1).drewN nq
    have t:=hI (bf.out.trans k2);have BR:=t.out.get b2.out (by simp);have r0:Q.cell? ⟨C.heap.size,0,none⟩=some (.slice K V.length cV):=by rw[aa BR];rfl
    have r1:Q.cell? ⟨C.heap.size,1,none⟩=some (.slice J B.length cB):=by rw[aa BR];rfl
    have dl:=ae BR;have R:=hI (bd.out X a1 c1 Q (r.out.trans t.out) (ge.Va ch.out k2) (by omega));have dk:=NY V o 10000 T.out (by omega) X;obtain⟨Y,HY⟩:∃Y,Hid (iU V o X=Y):=⟨_,rfl⟩
    rw[HY.out]at R n dk;clear bs ar ad s0 cc q3 O
    go_upto_region 9 with (go_at_call 179;refine QT R.out ?_;rintro e w3 ⟨h3,rfl,x3⟩)
    have I:=hI (t.out.trans x3.kept);obtain⟨gA,rfl,cL,c0⟩:=be.out w3 I.out;have a5:=hI (CY Y sL h3.ao cz h3.cap b5 w3 x3.own.srcX (Z.out w3 (r.out.trans I.out)) (by omega));obtain⟨sm,cs⟩:∃sm,Hid (ob Y sL=sm):=⟨_,rfl⟩
    rw[cs.out]at a5 n;clear x3 r0 r1 dl
    cases sm
    ·rw[QS (by simp)]at n
     have P:=hI (F.out (by rw[n.out];rfl));rw[n.out]at P;go_wp2_with (go_at_call 133;refine QT a5.out ?_;rintro e w4 ⟨rfl,k4⟩;have D:=hI (I.out.trans k4);clear k4);go_ret;exact⟨QM P.out.symm,r.out.trans D.out⟩
    ·rw[QV rfl]at n
     have P:=hI (ai.out n.out);go_wp2_with (go_at_call 133;refine QT a5.out ?_;rintro e w4 ⟨rfl,k4⟩;have D:=hI (I.out.trans k4);clear k4)
     go_roundg (f.length-(c+1))
     case measure=>omega
     case rel=>exact⟨c+1,by omega,rfl,by go_num,P,D⟩
   ·rw[hf,QV rfl]at n
    have d0:=aT.out hf;obtain⟨gX,eX,bv,cX⟩:=ch.out 0 _ (mh X 0 (by omega));replace eX:a1=some ⟨gX,0,none⟩:=eX;subst eX
    go_quiet (fail)
    obtain⟨Q,O⟩:∃Q,Hid (w1.drewN nq=Q):=⟨_,rfl⟩
    go_upto_region 6 with fail
    rw[O.out];have k2:ab [] w1 Q:=by rw[<-O.out];exact(ab.refl [] w1).drewN nq
    have t:=hI (bf.out.trans k2);obtain⟨gA,rfl,cL,c0⟩:=be.out Q t.out;obtain⟨g0,es,d6,ei⟩:=Z.out Q (r.out.trans t.out) 0 _ (mh sL 0 dp);subst es;have ec:Q.cell? ⟨gX,0,none⟩=some (.string (X.getD 0 ⟨#[]⟩)):=by rw[Q5 (k2.block gX bv (by simp))];exact cX
    have dv:=QW bv k2.size;have eb:(0:Int)<(X.length:Int):=by omega
    have dz:(0:Int)<(sL.length:Int):=by omega
    generalize sL.getD 0 ⟨#[]⟩=x at *;generalize X.getD 0 ⟨#[]⟩=ac at *;clear bs ar ad s0 cc q3 O cX k2 nq
    cases b6:(x.toList==ac.toList)
    ·rw[b6,QS (by simp)]at n
     have P:=hI (F.out (by rw[n.out];rfl));rw[n.out]at P
     go_quiet (fail)
     have D:=hI (t.out.trans ((ab.refl [] Q).drewN nq));go_wp2;go_ret;exact⟨QM P.out.symm,r.out.trans D.out⟩
    ·rw[b6,QV rfl]at n
     have P:=hI (ai.out n.out)
     go_quiet (fail)
     have D:=hI (t.out.trans ((ab.refl [] Q).drewN nq));go_wp2
     go_roundg (f.length-(c+1))
     case measure=>omega
     case rel=>exact⟨c+1,by omega,rfl,by go_num,P,D⟩
  ·have e:c=f.length:=by omega
   subst e;rw[HZ.out,QS (by decide)]at HR;have ct:¬(f.length:Int)<(f.length:Int):=by omega
   have R:=hI (co.out wr (fz.Va HD.out HK.out) (aS.out.mono (by omega)) (by omega) cj.out);obtain⟨v,b3⟩:∃v,Hid (fH b w H=v):=⟨_,rfl⟩
   rw[b3.out]at R HR
   go_upto_region 13 with (go_at_call 64;refine QT R.out ?_;rintro e w2 ⟨h2,rfl,x2⟩)
   have t:=hI (HK.out.trans x2.kept);have ds:=hI (x2.own.srcG LX);have d8:v.length<=100000000:=by rw[<-b3.out];exact Jb b w H (by omega)
   obtain⟨ap,cp⟩:=h2;clear x2 R HZ;go_wp2
   go_loopg [18] v.length (fun g i wr=>∃m:Nat,m<=v.length/\g=v.length-m/\i=.int .i64 m/\Hid (∀q (N:q<v.length),q<m->OD b w l V o v[q]=true)/\Hid (ab [] w2 wr))
   case atStart=>exact⟨0,by omega,rfl,rfl,(fun q _ h=>by omega),ab.refl _ _⟩
   case round =>
    obtain⟨m,hm,d3,rfl,bl,I⟩:=hrel;have D:=hI (t.out.trans I.out)
    by_cases an:m<v.length
    ·have c5:(m:Int)<(v.length:Int):=by omega
     obtain⟨gP,eP,a3,cP⟩:=ds.out m v[m] (QO an);subst eP
     have br:Hid (∀u:World,ab [] w2 u->u.cell? ⟨gP,m*2,none⟩=some (.string v[m].1)/\u.cell? ⟨gP,m*2+1,none⟩=some (.string v[m].2)/\gP<u.heap.size/\u.cell? ⟨C.heap.size,0,none⟩=some (.slice K V.length cV)/\u.cell? ⟨C.heap.size,1,none⟩=some (.slice J B.length cB)/\C.heap.size<u.heap.size):=fun u kw=>by
      have BR:=(t.out.trans kw).get b2.out (by simp);exact⟨by rw[Q5 (kw.block gP a3 (by simp))];exact cP 0 _ rfl,by rw[Q5 (kw.block gP a3 (by simp))];exact cP 1 _ rfl,QW a3 kw.size,by rw[aa BR];rfl,by rw[aa BR];rfl,ae BR⟩
     have bk:Hid (OD b w l V o v[m]=tK b w l (iU V o [v[m].1]) (iU V o [v[m].2])):=rfl
     have F:Hid (OD b w l V o v[m]=false->pO b w l H f M V o=9):=fun h=>by
      rw[HR.out,QS];rw[Sk];intro b1;have:=b1 v[m] (Ra an);rw[h]at this;cases this
     have ai:Hid (OD b w l V o v[m]=true->∀q (N:q<v.length),q<m+1->OD b w l V o v[q]=true):=fun h q N h2=>by
      by_cases e:q=m
      ·subst e;exact h
      ·exact bl.out q N (by omega)
     generalize OD b w l V o v[m]=mp at *;generalize v[m].1=x at *;generalize v[m].2=ac at *;clear cP;obtain⟨cx,cy,al,v0,v1,bT⟩:=br.out wr I.out;have cu:=pQ V o x 10000 T.out (by omega);have d7:=pQ V o ac 10000 T.out (by omega)
     have cb:Hid (ge (wr.alloc (.cells #[.string x] 9)).drew (some ⟨wr.heap.size,0,none⟩) [x]):=by
      intro q z N;have hk:(wr.alloc (.cells #[.string x] 9)).drew.heap[wr.heap.size]?=some (.cells #[.string x] 9 (0,0)):=QR _ _;refine⟨_,rfl,ae hk,?_⟩;rw[aa hk]
      match q,N with
      | 0,N=>simp at N;subst N;rfl
     go_upto_region 16 with fail
     go_region_with (go_at_call 179;refine(bd.out [x] (some ⟨wr.heap.size,0,none⟩) 1 _ (by exact((r.out.trans D.out).alloc _).drew) (by exact cb.out) (by simp)).mono ?_;rintro e w5 ⟨h5,rfl,x5⟩)
     all_goals
      have az:Hid (ab [] w2 w5):=((I.out.alloc _).drew).trans x5.kept;have bw:=hI x5.own.srcX;obtain⟨PX,db⟩:∃PX,Hid (iU V o [x]=PX):=⟨_,rfl⟩
      rw[db.out]at bw cu bk ⊢
      have ck:Hid (ge (w5.alloc (.cells #[.string ac] 9)).drew (some ⟨w5.heap.size,0,none⟩) [ac]):=by
       intro q z N;have hk:(w5.alloc (.cells #[.string ac] 9)).drew.heap[w5.heap.size]?=some (.cells #[.string ac] 9 (0,0)):=QR _ _;refine⟨_,rfl,ae hk,?_⟩;rw[aa hk]
       match q,N with
       | 0,N=>simp at N;subst N;rfl
      clear cx cy al v0 v1 bT x5 cb;obtain⟨cx,cy,al,v0,v1,bT⟩:=br.out w5 az.out
      go_upto_region 17 with fail
      go_region_with (go_at_call 179;refine(bd.out [ac] (some ⟨w5.heap.size,0,none⟩) 1 _ (by exact(((r.out.trans t.out).trans az.out).alloc _).drew) (by exact ck.out) (by simp)).mono ?_;rintro e w6 ⟨h6,rfl,x6⟩)
      all_goals
       have bc:Hid (ab [] w2 w6):=((az.out.alloc _).drew).trans x6.kept;have a7:=hI (Ht y l PX (iU V o [ac]) h5.ao h6.ao h5.cap h6.cap b d a w k S w6 (fz.Va HD.out (t.out.trans bc.out)) aS.out (ge.Va bw.out ((((ab.refl [] w5).alloc _).drew).trans x6.kept)) x6.own.srcX (by omega) (by omega));rw[<-bk.out]at a7;clear x6
       cases mp
       ·have P:=hI (F.out rfl)
        go_wp2_with (go_at_call 214;refine QT a7.out ?_;rintro e w7 ⟨rfl,k7⟩;have a2:=(show Hid _ from(t.out.trans bc.out).trans k7);clear k7);go_ret;exact⟨QM P.out.symm,r.out.trans a2.out⟩
       ·have P:=hI (ai.out rfl)
        go_wp2_with (go_at_call 214;refine QT a7.out ?_;rintro e w7 ⟨rfl,k7⟩;have a2:=hI (bc.out.trans k7);clear k7)
        go_roundg (v.length-(m+1))
        case measure=>omega
        case rel=>exact⟨m+1,by omega,rfl,by go_num,P,a2⟩
    ·have em:m=v.length:=by omega
     have P:Hid (pO b w l H f M V o=0):=by
      show _=_
      rw[HR.out,QV];rw[Sk];intro p hp;obtain⟨q,N,e⟩:=RZ hp;rw[<-e];exact bl.out q N (by omega)
     have c5:¬(m:Int)<(v.length:Int):=by omega
     go_wp2;go_ret;exact⟨QM P.out.symm,r.out.trans D.out⟩
def uh(T:List Tk)(S:List Sm)(a:Nat)(P:List dj)(i:Nat)(M:List (List ByteArray)):List ByteArray×Int :=
 if(bO P i).ref=-2 then(M.getD (bO P i).back [],0)
 else if aC (au S (bO P i).ref.toNat).k=false then(if 32<(cI T S (bO P i).ref.toNat).length then([],10) else(cI T S (bO P i).ref.toNat,0))
 else if dS P i<0 then([],6)
 else
  let hs:=bW T S (bO P i).ref.toNat
  let on:=(mI P i).map (fun q=>M.getD q [])
  let why:=pO T S a (bO P i).ref.toNat hs on (gK T S hs hs.length) (gi S hs on hs.length)
  if(why==0)=false then([],why)
  else if 32<(iU (gK T S hs hs.length) (gi S hs on hs.length) (cI T S (bO P i).ref.toNat)).length then([],10)
  else(iU (gK T S hs hs.length) (gi S hs on hs.length) (cI T S (bO P i).ref.toNat),0)
structure om(w:World)(s:Sl):Prop where
 ok:pq w s
 x:ge w s.ao s.L
 pos:0<s.L.length
 le:s.L.length<=10000
theorem om.Va(h:om f v)(k:ab [] f x):om x v:=⟨h.ok.Va k,h.x.Va k,h.pos,h.le⟩
def Ki(T:List Tk)(S:List Sm)(n:Nat):Prop:=∀j,j<n->(aC (au S j).k||aG (au S j).k)=true->0<(cI T S j).length/\(((au S j).k.toList == [36,102])=true->1<(cI T S j).length)
structure Kt(T:List Tk)(S:List Sm)(a:Nat)(P:List dj)(i:Nat):Prop where
 ways:((bO P i).ref=-2/\(bO P i).back<i)∨∃r,r<a/\(bO P i).ref=(r:Nat)/\(aC (au S r).k||aG (au S r).k)=true/\(aC (au S r).k=true->(bO P i).need=(bW T S r).length)
theorem yE:∀j∈bW b w S,j<S/\bS (au w j).k=false/\aG (au w j).k=true:=fun j c=>by
 have d:=sJ b w S j c;have a:=(RG.1 c).2;unfold sI at a;rw[Rf,Rz,Rf]at a
 rcases a.2 with h | ⟨h,-⟩
 ·exact⟨d,fX h (by decide),by unfold aG;rw[h];simp⟩
 ·exact⟨d,fX h (by decide),by unfold aG;rw[h];simp⟩
def Ks(w:World)(A:List Sl)(r:List ByteArray×Int)(e:Ending)(w':World):Prop:=∃s:Sl,e=.returned (.tuple #[.slice s.ao s.L.length s.cap,.int .i64 r.2])/\s.L=r.1/\((r.2==0)=true->om w' s)/\(s∈A∨∀q o,s.ao=some ⟨q,o,none⟩->w.heap.size<=q)/\ab [] w w'
theorem KL(e:T.ao=some ⟨n,zb,none⟩):T.blk=some n:=by unfold Hd.blk;rw[e];rfl
theorem qx{r:List ByteArray×Int}{e:Ending}(b:r.1=[])(a:(r.2==0)=false)(c:e=.returned (.tuple #[.slice none 0 0,.int .i64 r.2]))(k:ab [] f x):Ks f I r e x :=
 ⟨⟨none,0,[]⟩,c,b.symm,fun h=>(by rw[a]at h;cases h),QU (fun q o e=>by cases e),k⟩
theorem gw.sh(a:gw f x T (aB i))(b:0<i.length)(c:i.length<=10000):om x ⟨T.ao,T.cap,i⟩:=⟨a.sl,a.own.srcX,b,c⟩
theorem xI{α:Type}(R:List Nat)(f:Nat->α)(k:Nat)(h:k<R.length):(R.take (k+1)).map f=(R.take k).map f++[f R[k]]:=by
 rw[RC h,Rx];rfl
theorem Lo{x:ByteArray}(h:aJ i x=false):wo i x=i.length:=by
 refine Ln rfl (fun j a _=>?_);unfold aJ at h;rw[TG]at h;have:=h i[j] (Ra a);simpa using this
theorem NZ{B:List (List ByteArray)}{X:List ByteArray}(a:0<X.length)(h:aJ i (X.getD 0 ⟨#[]⟩)=false):0<(iU i B X).length:=by
 cases X with
 | nil=>simp at a
 | cons x X =>
  have e:(x :: X).getD 0 ⟨#[]⟩=x:=rfl;rw[e]at h;unfold iU;rw[RH,QZ];unfold LY;rw[Lo h,QS (by omega)];simp;omega
theorem Jm{S:List Sm}{M:List (List ByteArray)}(h:∀l∈M,l.length<=zb):∀l∈gi S y6 M n,l.length<=zb:=by
 intro l a;unfold gi at a;obtain⟨i,-,rfl⟩:=Sh.1 a;rw[RQ,QP]
 cases e:M[i]? with
 | none=>simp
 | some m=>have:=h m (R2 e);show m.length-1<=zb;omega
def OK(T:List Tk)(S:List Sm)(n:Nat):Prop:=∀r,r<n->aC (au S r).k=true->aJ (gK T S (bW T S r) (bW T S r).length) ((cI T S r).getD 0 ⟨#[]⟩)=false
theorem JJ(P:List dj)(af:Option Addr)(cP:Nat)(bp:Int)(pf:ByteArray)(pl pc:Int)(A:List Sl)(dz:Option Addr)(cA:Nat)(t:World)(hD:fz t y b d a w k S)(ok:nJ b w l)(hB:Ki b w l)(cF:OK b w l)(hn:l<w.length)(hP:cm t af 6 kU P)(c4:P.length<=100000000)(bf:MZ P)(hi:H<P.length)(dv:Kt b w l P H)(hA:cm t dz 1 Fd A)(ds:∀s∈A,om t s)(e9:A.length=H) :
  Calls prog 131 #[.pointer (some ⟨y,0,none⟩),.int .i64 l,.agg #[.slice af P.length cP,.int .i64 bp,.string pf,.int .i64 pl,.int .i64 pc],.int .i64 H,.slice dz A.length cA] t fun e w'=>Ks t A (uh b w l P H (A.map (·.L))) e w':=by
 obtain⟨W,HW⟩:∃W,Hid (t.alloc (.cells #[.slice af P.length cP,.int .i64 bp,.string pf,.int .i64 pl,.int .i64 pc] 122)=W):=⟨_,rfl⟩
 have BW:W.heap[t.heap.size]?=some (.cells #[.slice af P.length cP,.int .i64 bp,.string pf,.int .i64 pl,.int .i64 pc] 122 (0,0)):=by rw[<-HW.out];exact QR _ _
 have cz:Hid (ab [] t W):=by show ab [] t W;rw[<-HW.out];exact(ab.refl [] _).alloc _
 have p0:W.cell? ⟨t.heap.size,0,none⟩=some (.slice af P.length cP):=by rw[aa BW];rfl
 have eV:=ae BW;have fp:(H:Int)<(P.length:Int):=by omega
 obtain⟨gP,rfl,ez,q0,q1,q2,q3,q4,q5⟩:=cm.step (hP.Va cz.out) H hi;have HP:=hI hP;have HD:=hI hD;have ag:=hI ok;have dt:=hI hB;have eb:=hI cF;have HA:=hI hA;have ct:=hI ds;have fv:=ok.sm;have fl:=ok.tm;have fi:=hI bf;obtain⟨M,d4⟩:∃M,Hid (A.map (·.L)=M):=⟨_,rfl⟩
 have dT:Hid (∀i,i<A.length->M.getD i []=(fQ A i).L):=fun i hk=>by rw[<-d4.out];exact wE A i hk
 rw[d4.out];have eA:=hI (tI P (some ⟨gP,0,none⟩) cP bp pf pl pc c4 bf (H+1) H);have c3:Hid (∀f,cm f (some ⟨gP,0,none⟩) 6 kU P->0<=dS P H->Calls prog 102 #[.agg #[.slice (some ⟨gP,0,none⟩) P.length cP,.int .i64 bp,.string pf,.int .i64 pl,.int .i64 pc],.int .i64 H] f fun e w'=>∃g,e=.returned (.slice (some ⟨g,0,none⟩) (bO P H).need (bO P H).need)/\nF w' g (mI P H)/\ab [] f w'):=fun f h1 h2=>Jv P _ cP bp pf pl pc H f c4 bf hi h1 h2
 have az:=hI (Jw P H);have d2:=hI (Mi P H)
 have c:Hid (uh b w l P H M=if(bO P H).ref=-2 then(M.getD (bO P H).back [],0)
  else if aC (au w (bO P H).ref.toNat).k=false then(if 32<(cI b w (bO P H).ref.toNat).length then([],10) else(cI b w (bO P H).ref.toNat,0))
  else if dS P H<0 then([],6)
  else
   let n:=bW b w (bO P H).ref.toNat
   let on:=(mI P H).map (fun q=>M.getD q [])
   let E:=pO b w l (bO P H).ref.toNat n on (gK b w n n.length) (gi w n on n.length)
   if(E==0)=false then([],E)
   else if 32<(iU (gK b w n n.length) (gi w n on n.length) (cI b w (bO P H).ref.toNat)).length then([],10)
   else(iU (gK b w n n.length) (gi w n on n.length) (cI b w (bO P H).ref.toNat),0)):=rfl
 have ar:=dv.ways;have eH:=hI BW;clear dv hD ok hB hP hA ds bf cF;obtain⟨iL,eE,dp,d8,dl⟩:=Rd Eh;generalize bO P H=st at *;obtain⟨sr,Z,V,sf,sl,sc⟩:=st;simp only at q0 q1 q2 q3 q4 q5 ar c c3 az;obtain⟨W1,bj⟩:∃W1,Hid (W.alloc (.cells #[.int .i64 sr,.int .i64 (Z:Int),.int .i64 (V:Int),.string sf,.int .i64 sl,.int .i64 sc] 162)=W1):=⟨_,rfl⟩
 have B1:W1.heap[W.heap.size]?=some (.cells #[.int .i64 sr,.int .i64 (Z:Int),.int .i64 (V:Int),.string sf,.int .i64 sl,.int .i64 sc] 162 (0,0)):=by rw[<-bj.out];exact QR _ _
 have b3:ab [] W W1:=by rw[<-bj.out];exact(ab.refl [] _).alloc _
 have U:=hI (cz.out.trans b3)
 have I:Hid (∀f:World,ab [] W1 f->(f.cell? ⟨W.heap.size,0,none⟩=some (.int .i64 sr)/\f.cell? ⟨W.heap.size,1,none⟩=some (.int .i64 (Z:Int))/\W.heap.size<f.heap.size)/\(f.cell? ⟨t.heap.size,0,none⟩=some (.slice (some ⟨gP,0,none⟩) P.length cP)/\f.cell? ⟨t.heap.size,1,none⟩=some (.int .i64 bp)/\f.cell? ⟨t.heap.size,2,none⟩=some (.string pf)/\f.cell? ⟨t.heap.size,3,none⟩=some (.int .i64 pl)/\f.cell? ⟨t.heap.size,4,none⟩=some (.int .i64 pc)/\t.heap.size<f.heap.size)):=fun f kx=>by
  have b1:=kx.get B1 (by simp);have b0:=(b3.trans kx).get eH.out (by simp);exact⟨⟨by rw[aa b1];rfl,by rw[aa b1];rfl,ae b1⟩,by rw[aa b0];rfl,by rw[aa b0];rfl,by rw[aa b0];rfl,by rw[aa b0];rfl,by rw[aa b0];rfl,ae b0⟩
 clear B1 b3 BW;obtain⟨⟨N,s1,p⟩,p1,p2,p3,p4,p5,z⟩:=I.out W1 (ab.refl _ _)
 rcases ar with ⟨rfl,fq⟩ | ⟨r,hr,rfl,be,ba⟩
 ·rw[QV rfl]at c
  have a7:Z<A.length:=by omega
  have fd:(Z:Int)<(A.length:Int):=by omega
  obtain⟨gA,rfl,et,cb⟩:=cm.sl (cm.Va HA.out U.out) Z a7;have HO:=(show Hid _ from(ct.out (fQ A Z) (jK A Z a7)).Va U.out);have eX:Hid (fQ A Z∈A):=jK A Z a7;rw[dT.out Z a7]at c;generalize fQ A Z=s at *;obtain⟨K,u,sL⟩:=s;simp only at cb c;go_enter func131,ntmps131
  go_upto_region 1 with fail
  rw[HW.out]
  go_upto_region 2 with fail
  rw[bj.out];go_wp2;go_ret2;rw[c.out];exact⟨⟨K,u,sL⟩,rfl,rfl,fun _=>HO.out,Q0 eX.out,U.out⟩
 ·have T:r<w.length:=by omega
  rw[QS (by omega),R9]at c;have fu:(((r:Nat):Int) == -2)=false:=UU (by omega);have fb:((r:Nat):Int)<(w.length:Int):=by omega
  have fo:(0:Int)<=((r:Nat):Int):=by omega
  have F:bS (au w r).k=false:=by
   unfold aC aG at be;simp only[Rz]at be
   rcases be with (h | h) | (h | h) <;> exact fX h (by decide)
  have cR:Hid (∀f,ab [] t f->Calls prog 72 #[.pointer (some ⟨y,0,none⟩),.int .i64 ((r:Nat):Int)] f fun e w'=>∃h',e=.returned (.slice h'.ao (cI b w r).length h'.cap)/\vi f w' h' (cI b w r)):=fun f kx=>by
   have:=kC y r b d a w k S f (fz.Va HD.out kx) T (by omega) (by rw[bM w r T];exact ag.out.e r hr F);rw[bM w r T]at this;exact this
  obtain⟨b5,-⟩:=dt.out r hr be;have er:(cI b w r).length<=b.length:=ke b _;obtain⟨X,HX⟩:∃X,Hid (cI b w r=X):=⟨_,rfl⟩
  rw[HX.out]at cR c b5 er
  have eP:Hid (∀f:World,ab [] t f->∃gs,k=some ⟨gs,0,none⟩/\gs<f.heap.size/\f.cell? ⟨y,1,none⟩=some (.slice k w.length S)/\y<f.heap.size/\f.cell? ⟨gs,r*4+3,none⟩=some (.string (au w r).k)):=fun f kx=>by
   have hd:=fz.Va HD.out kx;obtain⟨-,N,G⟩:=hd.cells;obtain⟨gs,e3,b6,-,-,-,q3⟩:=hd.s.2 r w[r] (QO T);rw[bM w r T]at q3;exact⟨gs,e3,b6,N,G,q3⟩
  have cB:=hI (cR.out W1 U.out);go_enter func131,ntmps131
  go_upto_region 1 with fail
  rw[HW.out]
  go_upto_region 2 with fail
  rw[bj.out];clear q0 q1 q2 q3 q4 q5 p0 ez eV
  go_upto_region 5 with (go_at_call 72;refine QT cB.out ?_;rintro e w2 ⟨h2,rfl,x2⟩)
  have df:=hI (U.out.trans x2.kept);have cx:=hI x2.kept;have eY:=hI x2.toL;clear x2 N s1 p p1 p2 p3 p4 p5 z;obtain⟨⟨N,s1,p⟩,p1,p2,p3,p4,p5,z⟩:=I.out w2 cx.out;obtain⟨gs,rfl,b6,t0,e4,t1⟩:=eP.out w2 df.out;obtain⟨sk,cX⟩:∃sk,Hid ((au w r).k=sk):=⟨_,rfl⟩
  rw[cX.out]at t1 c ba;obtain⟨a4,cp⟩:∃a4,Hid (aC sk=a4):=⟨_,rfl⟩
  have d0:Hid (∀f,Calls prog 122 #[.string sk] f fun e w'=>e=.returned (.bool a4)/\w'=f):=fun f=>by rw[<-cp.out];exact fT sk f
  rw[cp.out]at c ba
  go_quiet ((go_at_call 122;exact Rc (d0.out _)))
  go_upto_region 6 with fail
  obtain⟨w3,bT⟩:∃w3,Hid (w2.drewN nq=w3):=⟨_,rfl⟩
  rw[bT.out];have k3:ab [] w2 w3:=by rw[<-bT.out];exact(ab.refl [] w2).drewN nq
  have ac:=hI (df.out.trans k3);have c9:=hI (cx.out.trans k3);have ca:=hI (eY.out.Va k3);clear N s1 p p1 p2 p3 p4 p5 z b6 t0 e4 t1 k3 bT d0;obtain⟨⟨N,s1,p⟩,p1,p2,p3,p4,p5,z⟩:=I.out w3 c9.out
  cases a4
  ·rw[QV rfl]at c
   by_cases aT:32<X.length
   ·rw[QV aT]at c
    have ap:(32:Int)<(X.length:Int):=by omega
    go_wp2;go_ret2;rw[c.out];exact qx rfl rfl rfl ac.out
   ·rw[QS aT]at c
    have ap:¬(32:Int)<(X.length:Int):=by omega
    go_wp2;go_ret2;rw[c.out];exact⟨⟨h2.ao,h2.cap,X⟩,rfl,rfl,fun _=>ca.out.sh b5 (by omega),QU (fun q o e=>Q1 U.out.size (ca.out.far q (KL e))),ac.out⟩
  ·rw[QS (by simp)]at c
   have ck:Hid (V=(bW b w r).length):=ba rfl;clear ba;have b4:=hI (eA.out w3 (by omega) hi (cm.Va HP.out ac.out))
   by_cases d6:dS P H<0
   ·rw[QV d6]at c
    generalize dS P H=bg at *;go_wp2_with (go_at_call 132;refine QT b4.out ?_;rintro e w4 ⟨rfl,k4⟩;have a5:=hI (ac.out.trans k4);clear k4);go_ret2;rw[c.out];exact qx rfl rfl rfl a5.out
   ·rw[QS d6]at c
    have cV:Hid (∀f,ab [] t f->Calls prog 102 #[.agg #[.slice (some ⟨gP,0,none⟩) P.length cP,.int .i64 bp,.string pf,.int .i64 pl,.int .i64 pc],.int .i64 H] f fun e w'=>∃g,e=.returned (.slice (some ⟨g,0,none⟩) V V)/\nF w' g (mI P H)/\ab [] f w'):=fun f kx=>c3.out f (cm.Va HP.out kx) (by omega)
    have bc:=hI (d2.out (by omega));obtain⟨R,HR⟩:∃R,Hid (mI P H=R):=⟨_,rfl⟩
    rw[HR.out]at cV bc c az;generalize dS P H=bg at *
    go_upto_region 11 with (go_at_call 132;refine QT b4.out ?_;rintro e w4 ⟨rfl,k4⟩)
    have a5:=hI (ac.out.trans k4);have c0:=hI (c9.out.trans k4);have eh:=hI (ca.out.Va k4);clear N s1 p p1 p2 p3 p4 p5 z k4;obtain⟨⟨N,s1,p⟩,p1,p2,p3,p4,p5,z⟩:=I.out w4 c0.out;have bw:=hI (cV.out w4 a5.out)
    go_upto_region 14 with (go_at_call 102;refine QT bw.out ?_;rintro e w5 ⟨g5,rfl,i5,k5⟩)
    have em:=hI (a5.out.trans k5);have eS:=hI (c0.out.trans k5);have ey:=hI (eh.out.Va k5);have eg:=hI i5;have ei:Hid (gw w5 w5 ⟨none,0⟩ (lz [])):=⟨QY _ _ _ _,(by intro i hk;cases hk),ab.refl _ _⟩;clear N s1 p p1 p2 p3 p4 p5 z k5 i5 bw b4;have ft:V<=10000:=by rw[ck.out];have:=ki b w r;omega
    go_wp2
    go_loopg [17,18] V (fun g o kv wr=>∃(i:Nat) (h:Hd) (O:List Sl),i<=V/\g=V-i/\o=.slice h.ao O.length h.cap/\kv=.int .i64 i/\O.length<=i/\Hid (O=(R.take i).map (fQ A))/\Hid (gw w5 wr h (lz O)))
    case atStart=>exact⟨0,⟨none,0⟩,[],by omega,rfl,rfl,rfl,QQ _,by show _=_;simp,ei⟩
    case round =>
     obtain⟨i,h,O,hk,hg,rfl,rfl,fx,HO,v⟩:=hrel;have cl:=hI (em.out.trans v.out.kept);have dk:=hI (eS.out.trans v.out.kept)
     by_cases es:i<V
     ·have el:(i:Int)<(V:Int):=by omega
      have b2:i<R.length:=by rw[az.out];exact es
      have fs:=bc.out R[i] (Ra b2);have ej:R[i]<A.length:=by omega
      obtain⟨g6,e6,fr,c6⟩:=(nF.src (show nF wr g5 R from v.out.kept.get eg.out (by simp))) i R[i] (QO b2)
      cases e6
      obtain⟨gA,rfl,et,cb⟩:=cm.sl (cm.Va HA.out cl.out) R[i] ej;have d9:Hid (O++[fQ A R[i]]=(R.take (i+1)).map (fQ A)):=by show _=_;rw[xI R _ i b2,HO.out]
      have e7:((R[i]:Nat):Int)<(A.length:Int):=by omega
      have e8:(0:Int)<=((R[i]:Nat):Int):=by omega
      generalize fQ A R[i]=s at *;generalize R[i]=q at *;obtain⟨K,u,sL⟩:=s;simp only at cb;have ex:=v.out.own;have e2:(lz O).n<=900000000:=by show O.length<=_;omega
      go_wp2_with (at_builtin;refine bN _ rfl (.tmp 70) (.tmp 78) 218 rfl iL (.slice none 0 0) 24 h (lz O) [.slice K sL.length u] underlying218 eE dp d8 dl rfl Rb rfl ex e2 (by omega) rfl rfl (by simp[Value.oneCell']) ?_;intro h7 w7 bz d1;rw[show([.slice K sL.length u]:List Value)=Fd ⟨K,u,sL⟩ from rfl,qu]at bz;have ea:=hI (v.out.grew d1 bz);clear bz d1)
      go_roundg (V-(i+1))
      case measure=>omega
      case rel=>exact⟨i+1,h7,O++[⟨K,u,sL⟩],by omega,rfl,by simp[lz,kT],by go_num,by simp;omega,d9,ea⟩
     ·have ek:i=V:=by omega
      subst ek;have cq:Hid (O=R.map (fQ A)):=by show _=_;rw[HO.out,Ts (by rw[az.out];exact QQ _)]
      have a0:Hid (O.length=i):=by show _=_;rw[cq.out,Rh,az.out]
      have ef:Hid (O.map (·.L)=R.map (fun q=>M.getD q [])):=by
       show _=_
       rw[cq.out,List.map_map];refine Uw (fun q hq=>?_);have:=bc.out q hq;exact(dT.out q (by omega)).symm
      have D:Hid (∀s∈O,∀f,ab [] t f->om f s):=fun s n f kx=>by
       rw[cq.out]at n;obtain⟨q,hq,rfl⟩:=Sh.1 n;have:=bc.out q hq;exact(ct.out _ (jK A q (by omega))).Va kx
      have el:¬(i:Int)<(i:Int):=by omega
      rw[<-ef.out]at c;have cj:=hI (nO y r b d a w _ S wr (fz.Va HD.out cl.out) (ag.out.mono (by omega)) T (ag.out.e r hr F));have aS:=hI (yE b w r);have bd:=hI (eb.out r hr (by rw[cX.out];exact cp.out));rw[HX.out]at bd;have ch:(bW b w r).length<=10000:=by have:=ki b w r;omega
      obtain⟨m,ep⟩:∃m,Hid (bW b w r=m):=⟨_,rfl⟩
      rw[ep.out]at cj aS c ck bd ch;obtain⟨⟨N,s1,p⟩,-⟩:=I.out wr dk.out
      go_upto_region 20 with (go_at_call 62;refine QT cj.out ?_;rintro e w7 ⟨h7,rfl,x7⟩)
      have al:=hI (cl.out.trans x7.kept);have en:=hI (dk.out.trans x7.kept);have ec:=(show Hid _ from(ey.out.Va v.out.kept).Va x7.kept);have e0:=hI (v.out.Va x7.kept);have bl:=hI x7.own.srcN;have bv:=hI (e0.out.own.srcG vv)
      have c1:∀H,H<m.length->GG w m H=true->1<(cI b w (m.getD H 0)).length:=fun q hq cf=>by
       have e:m.getD q 0=m[q]:=by rw[QP,QO hq];rfl
       unfold GG at cf;rw[e]at cf ⊢;obtain⟨j1,-,j3⟩:=aS.out m[q] (Ra hq);exact(dt.out m[q] (by omega) (by rw[j3];simp)).2 cf
      have cs:=hI c1;have bo:m.length<=O.length:=by rw[a0.out,ck.out];exact QQ _
      have db:O.length<=100000:=by have:=a0.out;omega
      have ai:=hI (Js y l b d a w _ S m h7.ao h7.cap O h.ao h.cap w7 (fz.Va HD.out al.out) ag.out bl.out (fun j hj=>by have:=(aS.out j hj).1;omega) ch bv.out (fun s n=>(D.out s n w7 al.out).ok) bo cs.out (fun s n=>(D.out s n w7 al.out).pos));clear c1 N s1 p x7 cj;obtain⟨VV,cu⟩:∃VV,Hid (gK b w m m.length=VV):=⟨_,rfl⟩
      rw[cu.out]at ai c bd;have eL:Hid (VV.length=(xM w m m.length).length):=by show _=_;rw[<-cu.out];unfold gK;simp
      obtain⟨OM,ad⟩:∃OM,Hid (O.map (·.L)=OM):=⟨_,rfl⟩
      rw[ad.out]at ai c;have c8:Hid ((gi w m OM m.length).length=(xM w m m.length).length):=by show _=_;unfold gi;simp
      have d7:Hid ((xM w m m.length).length<=m.length):=by
       show _<=_
       unfold xM;have:=Sb (GG w m) (List.range m.length);rw[Te]at this;exact this
      have br:Hid (∀e5∈gi w m OM m.length,e5.length<=10000):=Jm (fun e5 hl=>by
       rw[<-ad.out]at hl;obtain⟨s,n,rfl⟩:=Sh.1 hl;exact(D.out s n w7 al.out).le)
      obtain⟨BV,eo⟩:∃BV,Hid (gi w m OM m.length=BV):=⟨_,rfl⟩
      rw[eo.out]at ai c c8 br
      go_upto_region 21 with (go_at_call 177;refine QT ai.out ?_;rintro e w8 ⟨hv,G,B,rfl,ax,c5,nv,nb⟩)
      obtain⟨W8,a2⟩:∃W8,Hid (w8.alloc (.cells #[.slice hv.ao VV.length hv.cap,.slice G.ao B.length G.cap] 271)=W8):=⟨_,rfl⟩
      rw[a2.out];have k8:ab [] w8 W8:=by rw[<-a2.out];exact(ab.refl [] _).alloc _
      have B8:W8.heap[w8.heap.size]?=some (.cells #[.slice hv.ao VV.length hv.cap,.slice G.ao B.length G.cap] 271 (0,0)):=by rw[<-a2.out];exact QR _ _
      have C:=nv.kept.trans k8;have Q:=hI (al.out.trans C);have e1:=hI (en.out.trans C);have bx:Hid (B.length=(xM w m m.length).length):=by show _=_;rw[<-c8.out,<-ax,Rh]
      have cy:VV.length<=B.length:=by rw[eL.out,bx.out];exact QQ _
      have c7:B.length<=100000:=by have:=d7.out;rw[bx.out];omega
      have bs:Hid (∀s∈B,s.L.length<=10000):=fun s n=>br.out s.L (by rw[<-ax];exact Sh.2 ⟨s,n,rfl⟩)
      have d3:=hI (nv.own.srcX.Va k8);have cE:=(show Hid _ from(nb.own.srcG vv).Va k8);have cL:=hI (c5.Va C);have cc:=hI (QN y l r b d a w _ S m h7.ao h7.cap O h.ao h.cap VV hv.ao hv.cap B G.ao G.cap W8 (fz.Va HD.out Q.out) ag.out hr F (qC.Va bl.out C) (fun j hj=>⟨by have:=(aS.out j hj).1;omega,(aS.out j hj).2.1⟩) ch (cm.Va bv.out C) (fun s n=>(D.out s n W8 Q.out).ok) (fun s n=>(D.out s n W8 Q.out).x) bo db cs.out (fun s n=>⟨(D.out s n W8 Q.out).pos,(D.out s n W8 Q.out).le⟩) d3.out cE.out cL.out cy c7 bs.out);rw[ad.out,ax]at cc;obtain⟨E,c2⟩:∃E,Hid (pO b w l r m OM VV BV=E):=⟨_,rfl⟩
      rw[c2.out]at cc c;obtain⟨⟨N,s1,p⟩,-⟩:=I.out W8 e1.out;have v0:W8.cell? ⟨w8.heap.size,0,none⟩=some (.slice hv.ao VV.length hv.cap):=by rw[aa B8];rfl
      have v1:W8.cell? ⟨w8.heap.size,1,none⟩=some (.slice G.ao B.length G.cap):=by rw[aa B8];rfl
      have v2:=ae B8;have eq:=hI B8;have eT:=hI (ec.out.Va C);have d5:=hI ax;clear k8 C nv nb c5 B8 ai a2 ax
      go_upto_region 22 with (go_at_call 178;refine QT cc.out ?_;rintro e w9 ⟨rfl,k9⟩)
      have a3:=hI (Q.out.trans k9)
      cases a6:(E==0)
      ·rw[QV a6]at c
       go_wp2;go_ret2;rw[c.out];exact qx rfl a6 rfl a3.out
      ·rw[QS (by rw[a6];simp)]at c
       have ev:E=0:=by simpa using a6
       subst ev;have a1:=hI (CK VV hv.ao hv.cap B G.ao G.cap X h2.ao h2.cap w9 (ge.Va d3.out k9) (cm.Va cE.out k9) (o8.Va cL.out k9) cy c7 (ge.Va eT.out.own.srcX k9) (by omega) bs.out);rw[d5.out]at a1;have cH:=NZ (B:=BV) b5 bd.out;have B9:=k9.get eq.out (by simp);obtain⟨Y,HY⟩:∃Y,Hid (iU VV BV X=Y):=⟨_,rfl⟩
       rw[HY.out]at a1 c cH;have v3:w9.cell? ⟨w8.heap.size,0,none⟩=some (.slice hv.ao VV.length hv.cap):=by rw[aa B9];rfl
       have v4:w9.cell? ⟨w8.heap.size,1,none⟩=some (.slice G.ao B.length G.cap):=by rw[aa B9];rfl
       have v5:=ae B9;clear k9 v0 v1 v2 N s1 p
       by_cases aT:32<Y.length
       ·rw[QV aT]at c
        have ap:(32:Int)<(Y.length:Int):=by omega
        go_wp2_with (go_at_call 179;refine QT a1.out ?_;rintro e eB ⟨co,rfl,J⟩;have an:=hI (a3.out.trans J.kept);clear J);go_ret2;rw[c.out];exact qx rfl rfl rfl an.out
       ·rw[QS aT]at c
        have ap:¬(32:Int)<(Y.length:Int):=by omega
        go_wp2_with (go_at_call 179;refine QT a1.out ?_;rintro e eB ⟨co,rfl,J⟩;have an:=hI (a3.out.trans J.kept);have bk:=hI J;clear J);go_ret2;rw[c.out];exact⟨⟨co.ao,co.cap,Y⟩,rfl,rfl,fun _=>bk.out.sh cH (by omega),QU (fun q o e=>Q1 a3.out.size (bk.out.far q (KL e))),an.out⟩
structure ik where
 label:ByteArray
 Vb:Int
 why:Int
 file:ByteArray
 line:Int
 col:Int
def jJ(r:ik):List Value:=[.string r.label,.int .i64 r.Vb,.int .i64 r.why,.string r.file,.int .i64 r.line,.int .i64 r.col]
theorem xe(r:ik):(jJ r).length=6:=rfl
def xr(T:List Tk)(S:List Sm)(a:Nat)(P:List dj)(l:ByteArray)(t:Tk)(M:List (List ByteArray)):ik :=
 if(dS P (P.length-1)==0)=false then⟨l,2,11,t.file,t.line,t.col⟩
 else if ob (cI T S a) (M.getD (P.length-1) [])=false then⟨l,2,12,t.file,t.line,t.col⟩ else⟨l,4,0,⟨#[]⟩,0,0⟩
def pn(T:List Tk)(S:List Sm)(a:Nat)(P:List dj)(l:ByteArray)(t:Tk):Nat->Nat->List (List ByteArray)->ik
 | 0,_,M=>xr T S a P l t M
 | n+1,i,M=>if((uh T S a P i M).2==0)=false then⟨l,2,(uh T S a P i M).2,(bO P i).file,(bO P i).line,(bO P i).col⟩ else pn T S a P l t n (i+1) (M++[(uh T S a P i M).1])
def mQ(T:List Tk)(S:List Sm)(a:Nat)(p:jS)(t:Tk):ik :=
 if(p.why==0)=false then⟨bG T (au S a),2,p.why,p.file,p.line,p.col⟩
 else if 0<=ic p.st then⟨bG T (au S a),3,p.why,(bO p.st (ic p.st).toNat).file,(bO p.st (ic p.st).toNat).line,(bO p.st (ic p.st).toNat).col⟩
 else pn T S a p.st (bG T (au S a)) t p.st.length 0 []
theorem n8{r q p:Value}(h:f.heap[n]?=some (.cells #[N,g,z6,r,q,p] 38 (0,0)))(a b c d e i:Value) :
  (f.setCell ⟨n,0,none⟩ a).cell? ⟨n,0,none⟩=some a/\((f.setCell ⟨n,0,none⟩ a).setCell ⟨n,1,none⟩ b).cell? ⟨n,1,none⟩=some b/\(((f.setCell ⟨n,0,none⟩ a).setCell ⟨n,1,none⟩ b).setCell ⟨n,2,none⟩ c).cell? ⟨n,2,none⟩=some c/\((((f.setCell ⟨n,0,none⟩ a).setCell ⟨n,1,none⟩ b).setCell ⟨n,2,none⟩ c).setCell ⟨n,3,none⟩ d).cell? ⟨n,3,none⟩=some d /\
  (((((f.setCell ⟨n,0,none⟩ a).setCell ⟨n,1,none⟩ b).setCell ⟨n,2,none⟩ c).setCell ⟨n,3,none⟩ d).setCell ⟨n,4,none⟩ e).cell? ⟨n,4,none⟩=some e/\((((((f.setCell ⟨n,0,none⟩ a).setCell ⟨n,1,none⟩ b).setCell ⟨n,2,none⟩ c).setCell ⟨n,3,none⟩ d).setCell ⟨n,4,none⟩ e).setCell ⟨n,5,none⟩ i).cell? ⟨n,5,none⟩=some i:=by
 have m:=ah h 0 a;have j:=ah m 1 b;have o:=ah j 2 c;have k:=ah o 3 d;have l:=ah k 4 e;have s:=ah l 5 i;exact⟨by rw[aa m];rfl,by rw[aa j];rfl,by rw[aa o];rfl,by rw[aa k];rfl,by rw[aa l];rfl,by rw[aa s];rfl⟩
theorem dZ{r:ik}(h:f.heap[n]?=some (.cells (jJ r).toArray 38 (0,0))) :
  (f.cell? ⟨n,0,none⟩=some (.string r.label)/\f.cell? ⟨n,1,none⟩=some (.int .i64 r.Vb)/\f.cell? ⟨n,2,none⟩=some (.int .i64 r.why)/\f.cell? ⟨n,3,none⟩=some (.string r.file)/\f.cell? ⟨n,4,none⟩=some (.int .i64 r.line)/\f.cell? ⟨n,5,none⟩=some (.int .i64 r.col)) /\
  (f.frozen? ⟨n,0,none⟩=false/\f.frozen? ⟨n,1,none⟩=false/\f.frozen? ⟨n,2,none⟩=false/\f.frozen? ⟨n,3,none⟩=false/\f.frozen? ⟨n,4,none⟩=false/\f.frozen? ⟨n,5,none⟩=false)/\n<f.heap.size:=by
 refine⟨⟨?_,?_,?_,?_,?_,?_⟩,⟨am h 0,am h 1,am h 2,am h 3,am h 4,am h 5⟩,ae h⟩
 all_goals (rw[aa h];rfl)
def N7:ik:=⟨⟨#[]⟩,0,0,⟨#[]⟩,0,0⟩
def Kq(w:World)(r:ik)(e:Ending)(w':World):Prop:=e=.returned (.agg (jJ r).toArray)/\ab [] w w'
structure Ko(T:List Tk)(S:List Sm)(a:Nat)(p:jS):Prop where
 le:p.st.length<=100000000
 nd:MZ p.st
 st:p.why=0->0<p.st.length/\∀i,i<p.st.length->(bO p.st i).ref≠-1->Kt T S a p.st i
structure A6(w wr:World)(p:jS)(hp:Hd)(r:ik):Prop where
 e:wr.heap[w.heap.size]?=some (.cells #[.slice hp.ao p.st.length hp.cap,.int .i64 p.why,.string p.file,.int .i64 p.line,.int .i64 p.col] 122 (0,0))
 z:wr.heap[w.heap.size+1]?=some (.cells (jJ N7).toArray 38 (0,0))
 r:wr.heap[w.heap.size+2]?=some (.cells (jJ r).toArray 38 (0,0))
 kept:ab [] w wr
theorem A6.Va{b:World}{r:ik}(a:A6 f x o T r)(k:ab [] x b):A6 f b o T r:=⟨k.get a.e (by simp),k.get a.z (by simp),k.get a.r (by simp),a.kept.trans k⟩
theorem A6.set{r r':ik}(a:A6 f x o T r)(i:Nat)(v:Value)(h:(jJ r).set i v=jJ r'):A6 f (x.setCell ⟨f.heap.size+2,i,none⟩ v) o T r':=by
 have k:ab [f.heap.size+2] x (x.setCell ⟨f.heap.size+2,i,none⟩ v):=(ab.refl _ _).setCell (Q0 (by simp)) _;refine⟨k.get a.e (by simp),k.get a.z (by simp),?_,a.kept.setCell (QU (by simp)) _⟩;rw[ah a.r,<-h];simp
theorem A6.prf{r:ik}(a:A6 f x o T r):x.cell? ⟨f.heap.size,0,none⟩=some (.slice T.ao o.st.length T.cap)/\x.cell? ⟨f.heap.size,1,none⟩=some (.int .i64 o.why)/\x.cell? ⟨f.heap.size,2,none⟩=some (.string o.file)/\x.cell? ⟨f.heap.size,3,none⟩=some (.int .i64 o.line)/\x.cell? ⟨f.heap.size,4,none⟩=some (.int .i64 o.col)/\f.heap.size<x.heap.size :=
 ⟨by rw[aa a.e];rfl,by rw[aa a.e];rfl,by rw[aa a.e];rfl,by rw[aa a.e];rfl,by rw[aa a.e];rfl,ae a.e⟩
theorem Qh(h:om f v):∃q o,v.ao=some ⟨q,o,none⟩/\q<f.heap.size:=by
 obtain⟨g,e,a,-⟩:=h.x 0 _ (mh v.L 0 h.pos);exact⟨g,0,e,a⟩
theorem Mr(g:bt f x T z7)(a:om f v)(n:∀q o,v.ao=some ⟨q,o,none⟩->T.blk≠some q):om x v:=by
 refine⟨⟨fun k h i=>?_,a.ok.nil,a.ok.le⟩,fun k h i=>?_,a.pos,a.le⟩
 ·obtain⟨q,o,e,b,c⟩:=a.ok.src k h i
  exact⟨q,o,e,QW b g.kept.size,by rw[Q5 (g.kept.block q b (fun d=>n q o e (aN d)))];exact c⟩
 ·obtain⟨q,e,b,c⟩:=a.x k h i
  exact⟨q,e,QW b g.kept.size,by rw[Q5 (g.kept.block q b (fun d=>n q 0 e (aN d)))];exact c⟩
theorem Oa(g:bt f x T z7)(a:∀v∈I,om f v)(n:∀v∈I,∀q o,v.ao=some ⟨q,o,none⟩->T.blk≠some q)(b:om f v)(m:∀q o,v.ao=some ⟨q,o,none⟩->T.blk≠some q):∀t∈I++[v],om x t:=fun t c=>by
 rcases Rq.1 c with c | c
 ·exact Mr g (a t c) (n t c)
 ·rw[Q8.1 c];exact Mr g b m
theorem M7(g:bt f x T z7)(a:∀v∈I,om f v)(n:∀v∈I,∀q o,v.ao=some ⟨q,o,none⟩->T.blk≠some q)(b:om f v)(m:∀q o,v.ao=some ⟨q,o,none⟩->T.blk≠some q):∀t∈I++[v],∀q o,t.ao=some ⟨q,o,none⟩->z7.blk≠some q:=fun t c q o e i=>by
 have d:om f t/\T.blk≠some q:=by
  rcases Rq.1 c with c | c
  ·exact⟨a t c,n t c q o e⟩
  ·rw[Q8.1 c]at e ⊢;exact⟨b,m q o e⟩
 rcases g.blk with h | ⟨l,h,k⟩
 ·exact d.2 (by rw[<-h];exact i)
 ·rw[h]at i;cases i
  obtain⟨s,p,j,r⟩:=Qh d.1;rw[e]at j
  cases j
  omega
theorem AI(p:jS)(R:Hd)(c:World)(hD:fz c y b d a w k S)(ok:nJ b w l)(hB:Ki b w l)(b3:OK b w l)(hn:l<w.length)(hE:cU b (au w l).h)(dv:(au w l).a<b.length)(d5:(au w l).z=H+1)(cH:H<b.length)(hP:cm c R.ao 6 kU p.st)(a3:Ko b w l p) :
  Calls prog 89 #[.pointer (some ⟨y,0,none⟩),.int .i64 l,.agg #[.slice R.ao p.st.length R.cap,.int .i64 p.why,.string p.file,.int .i64 p.line,.int .i64 p.col]] c fun e w'=>Kq c (mQ b w l p (b.getD H jf)) e w':=by
 obtain⟨W,HW⟩:∃W,Hid (((c.alloc (.cells #[.slice R.ao p.st.length R.cap,.int .i64 p.why,.string p.file,.int .i64 p.line,.int .i64 p.col] 122)).alloc (.cells #[.string ⟨#[]⟩,.int .i64 0,.int .i64 0,.string ⟨#[]⟩,.int .i64 0,.int .i64 0] 38)).alloc (.cells #[.string ⟨#[]⟩,.int .i64 2,.int .i64 p.why,.string p.file,.int .i64 p.line,.int .i64 p.col] 38)=W):=⟨_,rfl⟩
 have V0:A6 c W p R ⟨⟨#[]⟩,2,p.why,p.file,p.line,p.col⟩:=by
  obtain⟨W1,a6⟩:∃W1,W1=c.alloc (.cells #[.slice R.ao p.st.length R.cap,.int .i64 p.why,.string p.file,.int .i64 p.line,.int .i64 p.col] 122):=⟨_,rfl⟩
  obtain⟨W2,aT⟩:∃W2,W2=W1.alloc (.cells #[.string ⟨#[]⟩,.int .i64 0,.int .i64 0,.string ⟨#[]⟩,.int .i64 0,.int .i64 0] 38):=⟨_,rfl⟩
  have Q:W1.heap.size=c.heap.size+1:=by rw[a6];simp
  have T:W2.heap.size=c.heap.size+2:=by rw[aT];simp[Q]
  have k0:ab [] c W1:=by rw[a6];exact(ab.refl [] _).alloc _
  have k1:ab [] W1 W2:=by rw[aT];exact(ab.refl [] _).alloc _
  have I:W1.heap[c.heap.size]?=some (.cells #[.slice R.ao p.st.length R.cap,.int .i64 p.why,.string p.file,.int .i64 p.line,.int .i64 p.col] 122 (0,0)):=by rw[a6];exact QR _ _
  have J:W2.heap[c.heap.size+1]?=some (.cells (jJ N7).toArray 38 (0,0)):=by rw[aT,<-Q];exact QR _ _
  rw[<-HW.out,<-a6,<-aT];have k2:ab [] W2 (W2.alloc (.cells #[.string ⟨#[]⟩,.int .i64 2,.int .i64 p.why,.string p.file,.int .i64 p.line,.int .i64 p.col] 38)):=(ab.refl [] _).alloc _;exact⟨k2.get (k1.get I (by simp)) (by simp),k2.get J (by simp),by rw[<-T];exact QR _ _,(k0.trans k1).trans k2⟩
 have a5:=hI V0;have HD:=hI hD;have cX:=hI ok;have HP:=hI hP;have ej:=ok.sm;have ef:=ok.tm;have ds:=hI hB;have cF:=hI b3;have c9:=hI hE;have a1:=a3.le;have bo:=hI a3.nd;have bl:=hI a3.st
 have ca:Hid (Calls prog 87 #[.pointer (some ⟨y,0,none⟩),.int .i64 l] W fun e w'=>e=.returned (.string (bG b (au w l)))/\ab [] W w'):=by
  have:=nP y l b d a w k S W (hD.Va V0.kept) hn (by rw[bM w l hn];exact dv);rw[bM w l hn]at this;exact this
 have ad:Hid (mQ b w l p (b.getD H jf)=if(p.why==0)=false then⟨bG b (au w l),2,p.why,p.file,p.line,p.col⟩
  else if 0<=ic p.st then⟨bG b (au w l),3,p.why,(bO p.st (ic p.st).toNat).file,(bO p.st (ic p.st).toNat).line,(bO p.st (ic p.st).toNat).col⟩
  else pn b w l p.st (bG b (au w l)) (b.getD H jf) p.st.length 0 []):=rfl
 have cp:Hid (∀F:World,ab [] c F->∃gT gs,d=some ⟨gT,0,none⟩/\k=some ⟨gs,0,none⟩/\gT<F.heap.size/\gs<F.heap.size/\y<F.heap.size/\F.cell? ⟨y,0,none⟩=some (.slice d b.length a)/\F.cell? ⟨y,1,none⟩=some (.slice k w.length S)/\F.cell? ⟨gs,l*4+1,none⟩=some (.int .i64 ((H:Int)+1))/\F.cell? ⟨gT,H*5+2,none⟩=some (.string (b.getD H jf).file)/\F.cell? ⟨gT,H*5+3,none⟩=some (.int .i64 (b.getD H jf).line)/\F.cell? ⟨gT,H*5+4,none⟩=some (.int .i64 (b.getD H jf).col)):=fun F kx=>by
  have hd:=fz.Va HD.out kx;obtain⟨c0,c1,hb⟩:=hd.cells;obtain⟨gs,M,bs,-,q1,-,-⟩:=hd.s.2 l w[l] (QO hn);rw[bM w l hn,d5,show((H+1:Nat):Int)=(H:Int)+1 by omega]at q1;obtain⟨gT,K,bv,-,-,t2,t3,t4⟩:=hd.t.2 H _ (iw b H cH);exact⟨gT,gs,K,M,bv,bs,hb,c0,c1,q1,t2,t3,t4⟩
 have bx:Hid (∀F,ab [] c F->Calls prog 130 #[.agg #[.slice R.ao p.st.length R.cap,.int .i64 p.why,.string p.file,.int .i64 p.line,.int .i64 p.col]] F fun e w'=>e=.returned (.int .i64 (ic p.st))/\ab [] F w'):=fun F kx=>Iq p.st R.ao R.cap p.why p.file p.line p.col F (hP.Va kx) a1
 have cx:=Eg p.st;obtain⟨iL,dt,cj,cy,cc⟩:=Rd Eh;clear hD ok hB b3 hE hP a3 V0;obtain⟨m,Hl⟩:∃m,Hid (bG b (au w l)=m):=⟨_,rfl⟩
 rw[Hl.out]at ca ad;obtain⟨V,d0⟩:∃V,Hid (mQ b w l p (b.getD H jf)=V):=⟨_,rfl⟩
 rw[d0.out]at ad ⊢;obtain⟨P,bp,pf,pl,pc⟩:=p;simp only at ad bx cx a1 bo bl HP;obtain⟨I,J,n,M,K,e5⟩:=a5.out.prf;obtain⟨⟨G,u,E,D,C,B⟩,⟨f0,f1,f2,f3,f4,f5⟩,j⟩:=dZ a5.out.r;obtain⟨⟨z0,Q,T,z3,z4,z5⟩,⟨Z,y1,y2,y3,y4,y5⟩,f⟩:=dZ a5.out.z;simp only at G u E D C B;go_enter func89,ntmps89
 go_upto_region 2 with fail
 rw[HW.out]
 go_upto_region 3 with (go_at_call 87;refine QT ca.out ?_;rintro e w1 ⟨rfl,k1⟩;have V1:=a5.out.Va k1;obtain⟨⟨u0,-⟩,⟨u1,-⟩,u2⟩:=dZ V1.r)
 have ag:Hid (A6 c (w1.setCell ⟨c.heap.size+2,0,none⟩ (.string m)) ⟨P,bp,pf,pl,pc⟩ R ⟨m,2,bp,pf,pl,pc⟩):=V1.set 0 (.string m) rfl;obtain⟨X2,ck⟩:∃X2,Hid (w1.setCell ⟨c.heap.size+2,0,none⟩ (.string m)=X2):=⟨_,rfl⟩
 rw[ck.out]at ag ⊢;clear V1 u0 u1 u2 k1 ck;clear I J n M K e5 G u E D C B f0 f1 f2 f3 f4 f5 j z0 Q T z3 z4 z5 Z y1 y2 y3 y4 y5 f;obtain⟨I,J,n,M,K,e5⟩:=ag.out.prf;obtain⟨⟨G,u,E,D,C,B⟩,⟨f0,f1,f2,f3,f4,f5⟩,j⟩:=dZ ag.out.r;obtain⟨⟨z0,Q,T,z3,z4,z5⟩,⟨Z,y1,y2,y3,y4,y5⟩,f⟩:=dZ ag.out.z;simp only at G u E D C B;simp only at I J n M K
 cases hy:(bp==0)
 ·rw[hy,QV rfl]at ad
  have HX:Hid (V=⟨m,2,bp,pf,pl,pc⟩):=ad.out;go_wp2;obtain⟨x0,x1,x2,x3,x4,x5⟩:=n8 ag.out.z (.string m) (.int .i64 2) (.int .i64 bp) (.string pf) (.int .i64 pl) (.int .i64 pc);exact QX (v:=.agg #[.string m,.int .i64 2,.int .i64 bp,.string pf,.int .i64 pl,.int .i64 pc]) (by simp[results,results89,go_sem,x0,x1,x2,x3,x4,x5]) rfl ⟨by rw[HX.out];rfl,(((((ag.out.kept.setCell (QU (by simp)) _).setCell (QU (by simp)) _).setCell (QU (by simp)) _).setCell (QU (by simp)) _).setCell (QU (by simp)) _).setCell (QU (by simp)) _⟩
 ·rw[hy,QS (by simp)]at ad
  have cP:bp=0:=by simpa using hy
  subst cP;have cu:=hI (bx.out X2 ag.out.kept)
  go_upto_region 6 with (go_at_call 130;refine QT cu.out ?_;rintro e w3 ⟨rfl,k3⟩)
  have ap:=hI (ag.out.Va k3);clear k3;clear I J n M K e5 G u E D C B f0 f1 f2 f3 f4 f5 j z0 Q T z3 z4 z5 Z y1 y2 y3 y4 y5 f;obtain⟨I,J,n,M,K,e5⟩:=ap.out.prf;obtain⟨⟨G,u,E,D,C,B⟩,⟨f0,f1,f2,f3,f4,f5⟩,j⟩:=dZ ap.out.r;obtain⟨⟨z0,Q,T,z3,z4,z5⟩,⟨Z,y1,y2,y3,y4,y5⟩,f⟩:=dZ ap.out.z;simp only at G u E D C B;simp only at I J n M K
  rcases cx with ⟨hh,b2⟩ | ⟨ai,hk,hh⟩
  ·rw[hh,QS (by omega)]at ad
   rw[hh];obtain⟨eh,bT⟩:=bl.out (by trivial);have c6:Hid (∀i,i<P.length->Kt b w l P i):=fun i hi=>bT i hi (b2 i hi)
   have d2:Hid (gw w3 w3 ⟨none,0⟩ (lz [])):=⟨QY _ _ _ _,(by intro ai hk;cases hk),ab.refl _ _⟩;have ba:Hid (pn b w l P m (b.getD H jf) (P.length-0) 0 (([]:List Sl).map (·.L))=V):=ad.out.symm;obtain⟨tz,d3⟩:∃tz,Hid (b.getD H jf=tz):=⟨_,rfl⟩
   rw[d3.out]at cp ba;clear bT b2 hh ad bl bx cu;go_wp2;clear I J n M K e5 G u E D C B f0 f1 f2 f3 f4 f5 j z0 Q T z3 z4 z5 Z y1 y2 y3 y4 y5 f
   go_loopg [9,10] P.length (fun g o iv wr=>∃(i:Nat) (h:Hd) (A:List Sl),i<=P.length/\g=P.length-i/\o=.slice h.ao A.length h.cap/\iv=.int .i64 i/\Hid (A.length=i)/\Hid (∀s∈A,om wr s)/\Hid (∀s∈A,∀q o,s.ao=some ⟨q,o,none⟩->h.blk≠some q)/\Hid (pn b w l P m tz (P.length-i) i (A.map (·.L))=V)/\Hid (gw w3 wr h (lz A)))
   case atStart=>exact⟨0,⟨none,0⟩,[],by omega,rfl,rfl,rfl,rfl,(fun s hs=>by cases hs),(fun s hs=>by cases hs),ba,d2⟩
   case round =>
    obtain⟨i,h,A,hi,hg,rfl,rfl,aS,be,bf,HG,ax⟩:=hrel;have an:=hI (ap.out.Va ax.out.kept);have a0:=hI an.out.kept;obtain⟨I,J,n,M,K,e5⟩:=an.out.prf;obtain⟨⟨G,u,E,D,C,B⟩,⟨f0,f1,f2,f3,f4,f5⟩,j⟩:=dZ an.out.r;obtain⟨⟨z0,Q,T,z3,z4,z5⟩,⟨Z,y1,y2,y3,y4,y5⟩,f⟩:=dZ an.out.z;simp only at G u E D C B;simp only at I J n M K
    by_cases a2:i<P.length
    ·have eg:(i:Int)<(P.length:Int):=by omega
     have bw:=hI (JJ y l i b d a w k S P R.ao R.cap 0 pf pl pc A h.ao h.cap wr (fz.Va HD.out a0.out) cX.out ds.out cF.out hn (cm.Va HP.out a0.out) a1 bo.out a2 (c6.out i a2) (ax.out.own.srcG vv) be.out aS.out);obtain⟨cA,hd⟩:∃cA,P.length-i=cA+1:=⟨P.length-i-1,by omega⟩
     have af:Hid (pn b w l P m tz (cA+1) i (A.map (·.L))=V):=by rw[<-hd];exact HG
     rw[pn]at af;have cE:Hid (P.length-(i+1)=cA):=by show _=_;omega
     clear hd HG;obtain⟨SR,c7⟩:∃SR,Hid (uh b w l P i (A.map (·.L))=SR):=⟨_,rfl⟩
     rw[c7.out]at bw af;obtain⟨sE,sW⟩:=SR;simp only at af
     go_upto_region 15 with (go_at_call 131;refine QT bw.out ?_;rintro e w4 ⟨s,rfl,cz,bc,b0,k4⟩)
     have Y:=hI (an.out.Va k4);have b5:=hI (ax.out.Va k4);have a7:Hid (∀s∈A,om w4 s):=fun s hs=>(be.out s hs).Va k4
     have cq:Hid (s.L=sE):=cz;have c8:Hid ((sW==0)=true->om w4 s):=bc
     have cb:Hid (∀q o,s.ao=some ⟨q,o,none⟩->h.blk≠some q):=fun q o e hb=>by
      rcases b0 with hm | hf
      ·exact bf.out s hm q o e hb
      ·have:=hf q o e
       have:=ax.out.own.lt hb;omega
     clear cz bc b0 k4 bw;clear I J n M K e5 G u E D C B f0 f1 f2 f3 f4 f5 j z0 Q T z3 z4 z5 Z y1 y2 y3 y4 y5 f;obtain⟨I,J,n,M,K,e5⟩:=Y.out.prf;obtain⟨⟨G,u,E,D,C,B⟩,⟨f0,f1,f2,f3,f4,f5⟩,j⟩:=dZ Y.out.r;obtain⟨⟨z0,Q,T,z3,z4,z5⟩,⟨Z,y1,y2,y3,y4,y5⟩,f⟩:=dZ Y.out.z;simp only at G u E D C B;simp only at I J n M K
     cases hw:(sW==0)
     ·rw[hw,QV rfl]at af
      have HX:Hid (V=⟨m,2,sW,(bO P i).file,(bO P i).line,(bO P i).col⟩):=af.out.symm;obtain⟨gP,ar,az,-,-,-,q3,q4,q5⟩:=cm.step (cm.Va HP.out Y.out.kept) i a2
      have HQ:Hid (∀F:World,ab [] c F->gP<F.heap.size/\F.cell? ⟨gP,i*6+3,none⟩=some (.string (bO P i).file)/\F.cell? ⟨gP,i*6+4,none⟩=some (.int .i64 (bO P i).line)/\F.cell? ⟨gP,i*6+5,none⟩=some (.int .i64 (bO P i).col)):=fun F kx=>by
       obtain⟨g2,n,h2,-,-,-,c3,c4,c5⟩:=cm.step (cm.Va HP.out kx) i a2;rw[ar]at n
       cases n
       exact⟨h2,c3,c4,c5⟩
      generalize (bO P i).file=sf at *;generalize (bO P i).line=sl at *;generalize (bO P i).col=sc at *;clear az q3 q4 q5
      go_upto_region 17 with fail
      have N:Hid (A6 c (w4.setCell ⟨c.heap.size+2,2,none⟩ (.int .i64 sW)) ⟨P,0,pf,pl,pc⟩ R ⟨m,2,sW,pf,pl,pc⟩):=Y.out.set 2 (.int .i64 sW) rfl;obtain⟨X4,bz⟩:∃X4,Hid (w4.setCell ⟨c.heap.size+2,2,none⟩ (.int .i64 sW)=X4):=⟨_,rfl⟩
      rw[bz.out]at N ⊢;clear I J n M K e5 G u E D C B f0 f1 f2 f3 f4 f5 j z0 Q T z3 z4 z5 Z y1 y2 y3 y4 y5 f;obtain⟨I,J,n,M,K,e5⟩:=N.out.prf;obtain⟨⟨G,u,E,D,C,B⟩,⟨f0,f1,f2,f3,f4,f5⟩,j⟩:=dZ N.out.r;obtain⟨⟨z0,Q,T,z3,z4,z5⟩,⟨Z,y1,y2,y3,y4,y5⟩,f⟩:=dZ N.out.z;simp only at G u E D C B;simp only at I J n M K;obtain⟨az,q3,q4,q5⟩:=HQ.out X4 N.out.kept;rw[ar]at I
      go_upto_region 18 with fail
      have U:Hid (A6 c (((X4.setCell ⟨c.heap.size+2,3,none⟩ (.string sf)).setCell ⟨c.heap.size+2,4,none⟩ (.int .i64 sl)).setCell ⟨c.heap.size+2,5,none⟩ (.int .i64 sc)) ⟨P,0,pf,pl,pc⟩ R ⟨m,2,sW,sf,sl,sc⟩):=((N.out.set (r':=⟨m,2,sW,sf,pl,pc⟩) 3 (.string sf) rfl).set (r':=⟨m,2,sW,sf,sl,pc⟩) 4 (.int .i64 sl) rfl).set 5 (.int .i64 sc) rfl;obtain⟨X5,br⟩:∃X5,Hid (((X4.setCell ⟨c.heap.size+2,3,none⟩ (.string sf)).setCell ⟨c.heap.size+2,4,none⟩ (.int .i64 sl)).setCell ⟨c.heap.size+2,5,none⟩ (.int .i64 sc)=X5):=⟨_,rfl⟩
      rw[br.out]at U ⊢;clear I J n M K e5 G u E D C B f0 f1 f2 f3 f4 f5 j z0 Q T z3 z4 z5 Z y1 y2 y3 y4 y5 f;obtain⟨I,J,n,M,K,e5⟩:=U.out.prf;obtain⟨⟨G,u,E,D,C,B⟩,⟨f0,f1,f2,f3,f4,f5⟩,j⟩:=dZ U.out.r;obtain⟨⟨z0,Q,T,z3,z4,z5⟩,⟨Z,y1,y2,y3,y4,y5⟩,f⟩:=dZ U.out.z;simp only at G u E D C B;go_wp2;obtain⟨x0,x1,x2,x3,x4,x5⟩:=n8 U.out.z (.string m) (.int .i64 2) (.int .i64 sW) (.string sf) (.int .i64 sl) (.int .i64 sc);exact QX (v:=.agg #[.string m,.int .i64 2,.int .i64 sW,.string sf,.int .i64 sl,.int .i64 sc]) (by simp[results,results89,go_sem,x0,x1,x2,x3,x4,x5]) rfl ⟨by rw[HX.out];rfl,(((((U.out.kept.setCell (QU (by simp)) _).setCell (QU (by simp)) _).setCell (QU (by simp)) _).setCell (QU (by simp)) _).setCell (QU (by simp)) _).setCell (QU (by simp)) _⟩
     ·rw[hw,QS (by simp)]at af
      have dk:sW=0:=by simpa using hw
      subst dk;have cf:=hI (c8.out rfl);rw[<-cq.out]at af;have dz:Hid (([.slice s.ao sE.length s.cap]:List Value)=Fd s):=by show _=_;unfold Fd;rw[cq.out]
      have dp:=b5.out.own;have cV:Hid ((lz A).n<=900000000):=by show A.length<=_;rw[aS.out];omega
      go_wp2_with (at_builtin;refine bN _ rfl (.tmp 71) (.tmp 73) 218 rfl iL (.slice none 0 0) 24 h (lz A) [.slice s.ao sE.length s.cap] underlying218 dt cj cy cc rfl Rb rfl dp cV.out (by omega) rfl rfl (by simp[Value.oneCell']) ?_;intro h7 w7 bd a4;rw[dz.out,qu]at bd;have cB:=hI (b5.out.grew a4 bd);have co:=hI (Oa a4 a7.out bf.out cf.out cb.out);have cs:=hI (M7 a4 a7.out bf.out cf.out cb.out);clear bd a4)
      go_roundg (P.length-(i+1))
      case measure=>omega
      case rel=>exact⟨i+1,h7,A++[s],by omega,rfl,by simp[lz,kT],by go_num,by show _=_;rw[QZ,aS.out];rfl,co,cs,by rw[cE.out,Rx];exact af,cB⟩
    ·obtain⟨q,hq⟩:∃q,P.length=q+1:=⟨P.length-1,by omega⟩
     have d6:¬(i:Int)<(P.length:Int):=by omega
     have ei:IntKind.i64.wrap ((P.length:Int)-1)=(q:Int):=by rw[R8];omega
     have af:Hid (xr b w l P m tz (A.map (·.L))=V):=by have:=HG.out;rw[show P.length-i=0 by omega,pn]at this;exact this
     have ac:Hid (xr b w l P m tz (A.map (·.L))=if(dS P q==0)=false then⟨m,2,11,tz.file,tz.line,tz.col⟩ else if ob (cI b w l) (fQ A q).L=false then⟨m,2,12,tz.file,tz.line,tz.col⟩ else⟨m,4,0,⟨#[]⟩,0,0⟩):=by show _=_;unfold xr;rw[show P.length-1=q by omega,wE A q (by rw[aS.out];omega)]
     have b1:q<A.length:=by rw[aS.out];omega
     have d7:(q:Int)<(A.length:Int):=by omega
     have dT:q<P.length:=by omega
     have d8:(0:Int)<=(q:Int):=by omega
     clear hq HG;rw[af.out]at ac;have ch:=hI (tI P R.ao R.cap 0 pf pl pc a1 bo.out (q+1) q wr (by omega) dT (cm.Va HP.out a0.out));generalize dS P q=bg at *
     have b4:Hid (∀F,ab [] c F->Calls prog 72 #[.pointer (some ⟨y,0,none⟩),.int .i64 (l:Int)] F fun e w'=>∃h',e=.returned (.slice h'.ao (cI b w l).length h'.cap)/\vi F w' h' (cI b w l)):=fun F kx=>by
      have:=kC y l b d a w k S F (fz.Va HD.out kx) hn (by omega) (by rw[bM w l hn];exact c9.out);rw[bM w l hn]at this;exact this
     have db:(cI b w l).length<=b.length:=ke b _;obtain⟨X,c2⟩:∃X,Hid (cI b w l=X):=⟨_,rfl⟩
     rw[c2.out]at b4 db ac
     go_upto_region 22 with (go_at_call 132;refine QT ch.out ?_;rintro e w4 ⟨rfl,k4⟩)
     have b6:=hI (b4.out w4 (a0.out.trans k4))
     go_upto_region 23 with (go_at_call 72;refine QT b6.out ?_;rintro e w5 ⟨h5,rfl,x5⟩)
     have k5:=k4.trans x5.kept;have N:=hI (an.out.Va k5);obtain⟨gA,cR,df,dl⟩:=cm.sl ((ax.out.Va k5).own.srcG vv) q b1;have d1:=(show Hid _ from(be.out (fQ A q) (jK A q b1)).Va k5);have bk:=hI (CY X (fQ A q).L h5.ao (fQ A q).ao h5.cap (fQ A q).cap w5 x5.own.srcX d1.out.x (by omega));generalize fQ A q=s at *;obtain⟨sm,cL⟩:∃sm,Hid (ob X s.L=sm):=⟨_,rfl⟩
     rw[cL.out]at bk ac;rw[cR];clear k4 k5 x5 b6 ch;clear I J n M K e5 G u E D C B f0 f1 f2 f3 f4 f5 j z0 Q T z3 z4 z5 Z y1 y2 y3 y4 y5 f
     go_upto_region 24 with (go_at_call 133;refine QT bk.out ?_;rintro e w6 ⟨rfl,k6⟩)
     have U:=hI (N.out.Va k6);clear k6 dl df bk;obtain⟨I,J,n,M,K,e5⟩:=U.out.prf;obtain⟨⟨G,u,E,D,C,B⟩,⟨f0,f1,f2,f3,f4,f5⟩,j⟩:=dZ U.out.r;obtain⟨⟨z0,Q,T,z3,z4,z5⟩,⟨Z,y1,y2,y3,y4,y5⟩,f⟩:=dZ U.out.z;simp only at G u E D C B;simp only at I J n M K;obtain⟨gT,gs,rfl,rfl,bv,bs,d4,c0,c1,q1,t2,t3,t4⟩:=cp.out w6 U.out.kept;have eb:(l:Int)<(w.length:Int):=by omega
     have d9:(H:Int)<(b.length:Int):=by omega
     obtain⟨ts,tr,tf,tl,tc⟩:=tz;simp only at t2 t3 t4 ac;have al:Hid (A6 c (((w6.setCell ⟨c.heap.size+2,3,none⟩ (.string tf)).setCell ⟨c.heap.size+2,4,none⟩ (.int .i64 tl)).setCell ⟨c.heap.size+2,5,none⟩ (.int .i64 tc)).drew ⟨P,0,pf,pl,pc⟩ R ⟨m,2,0,tf,tl,tc⟩):=(((U.out.set (r':=⟨m,2,0,tf,pl,pc⟩) 3 (.string tf) rfl).set (r':=⟨m,2,0,tf,tl,pc⟩) 4 (.int .i64 tl) rfl).set (r':=⟨m,2,0,tf,tl,tc⟩) 5 (.int .i64 tc) rfl).Va (ab.refl [] _).drew
     go_region
     obtain⟨X7,cl⟩:∃X7,Hid ((((w6.setCell ⟨c.heap.size+2,3,none⟩ (.string tf)).setCell ⟨c.heap.size+2,4,none⟩ (.int .i64 tl)).setCell ⟨c.heap.size+2,5,none⟩ (.int .i64 tc)).drew=X7):=⟨_,rfl⟩
     rw[cl.out]at al ⊢;clear I J n M K e5 G u E D C B f0 f1 f2 f3 f4 f5 j z0 Q T z3 z4 z5 Z y1 y2 y3 y4 y5 f;clear bv bs d4 c0 c1 q1 t2 t3 t4 cl;obtain⟨I,J,n,M,K,e5⟩:=al.out.prf;obtain⟨⟨G,u,E,D,C,B⟩,⟨f0,f1,f2,f3,f4,f5⟩,j⟩:=dZ al.out.r;obtain⟨⟨z0,Q,T,z3,z4,z5⟩,⟨Z,y1,y2,y3,y4,y5⟩,f⟩:=dZ al.out.z;simp only at G u E D C B;simp only at I J n M K
     cases ct:(bg==0)
     ·rw[ct,QV rfl]at ac
      have HX:Hid (V=⟨m,2,11,tf,tl,tc⟩):=ac.out
      go_upto_region 27 with fail
      have O:Hid (A6 c (X7.setCell ⟨c.heap.size+2,2,none⟩ (.int .i64 11)) ⟨P,0,pf,pl,pc⟩ R ⟨m,2,11,tf,tl,tc⟩):=al.out.set 2 (.int .i64 11) rfl;obtain⟨X8,bj⟩:∃X8,Hid (X7.setCell ⟨c.heap.size+2,2,none⟩ (.int .i64 11)=X8):=⟨_,rfl⟩
      rw[bj.out]at O ⊢;clear I J n M K e5 G u E D C B f0 f1 f2 f3 f4 f5 j z0 Q T z3 z4 z5 Z y1 y2 y3 y4 y5 f;obtain⟨I,J,n,M,K,e5⟩:=O.out.prf;obtain⟨⟨G,u,E,D,C,B⟩,⟨f0,f1,f2,f3,f4,f5⟩,j⟩:=dZ O.out.r;obtain⟨⟨z0,Q,T,z3,z4,z5⟩,⟨Z,y1,y2,y3,y4,y5⟩,f⟩:=dZ O.out.z;simp only at G u E D C B;go_wp2;obtain⟨x0,x1,x2,x3,x4,x5⟩:=n8 O.out.z (.string m) (.int .i64 2) (.int .i64 11) (.string tf) (.int .i64 tl) (.int .i64 tc);exact QX (v:=.agg #[.string m,.int .i64 2,.int .i64 11,.string tf,.int .i64 tl,.int .i64 tc]) (by simp[results,results89,go_sem,x0,x1,x2,x3,x4,x5]) rfl ⟨by rw[HX.out];rfl,(((((O.out.kept.setCell (QU (by simp)) _).setCell (QU (by simp)) _).setCell (QU (by simp)) _).setCell (QU (by simp)) _).setCell (QU (by simp)) _).setCell (QU (by simp)) _⟩
     ·rw[ct,QS (by simp)]at ac
      cases sm
      ·rw[QV rfl]at ac
       have HX:Hid (V=⟨m,2,12,tf,tl,tc⟩):=ac.out
       go_upto_region 30 with fail
       have O:Hid (A6 c (X7.setCell ⟨c.heap.size+2,2,none⟩ (.int .i64 12)) ⟨P,0,pf,pl,pc⟩ R ⟨m,2,12,tf,tl,tc⟩):=al.out.set 2 (.int .i64 12) rfl;obtain⟨X8,bj⟩:∃X8,Hid (X7.setCell ⟨c.heap.size+2,2,none⟩ (.int .i64 12)=X8):=⟨_,rfl⟩
       rw[bj.out]at O ⊢;clear I J n M K e5 G u E D C B f0 f1 f2 f3 f4 f5 j z0 Q T z3 z4 z5 Z y1 y2 y3 y4 y5 f;obtain⟨I,J,n,M,K,e5⟩:=O.out.prf;obtain⟨⟨G,u,E,D,C,B⟩,⟨f0,f1,f2,f3,f4,f5⟩,j⟩:=dZ O.out.r;obtain⟨⟨z0,Q,T,z3,z4,z5⟩,⟨Z,y1,y2,y3,y4,y5⟩,f⟩:=dZ O.out.z;simp only at G u E D C B;go_wp2;obtain⟨x0,x1,x2,x3,x4,x5⟩:=n8 O.out.z (.string m) (.int .i64 2) (.int .i64 12) (.string tf) (.int .i64 tl) (.int .i64 tc);exact QX (v:=.agg #[.string m,.int .i64 2,.int .i64 12,.string tf,.int .i64 tl,.int .i64 tc]) (by simp[results,results89,go_sem,x0,x1,x2,x3,x4,x5]) rfl ⟨by rw[HX.out];rfl,(((((O.out.kept.setCell (QU (by simp)) _).setCell (QU (by simp)) _).setCell (QU (by simp)) _).setCell (QU (by simp)) _).setCell (QU (by simp)) _).setCell (QU (by simp)) _⟩
      ·rw[QS (by simp)]at ac
       have HX:Hid (V=⟨m,4,0,⟨#[]⟩,0,0⟩):=ac.out;go_wp2;obtain⟨x0,x1,x2,x3,x4,x5⟩:=n8 al.out.z (.string m) (.int .i64 4) (.int .i64 0) (.string ⟨#[]⟩) (.int .i64 0) (.int .i64 0);exact QX (v:=.agg #[.string m,.int .i64 4,.int .i64 0,.string ⟨#[]⟩,.int .i64 0,.int .i64 0]) (by simp[results,results89,go_sem,x0,x1,x2,x3,x4,x5]) rfl ⟨by rw[HX.out];rfl,(((((al.out.kept.setCell (QU (by simp)) _).setCell (QU (by simp)) _).setCell (QU (by simp)) _).setCell (QU (by simp)) _).setCell (QU (by simp)) _).setCell (QU (by simp)) _⟩
  ·rw[hh,QV (by omega),R9]at ad
   rw[hh];have ec:(0:Int)<=(ai:Int):=by omega
   have ea:(ai:Int)<(P.length:Int):=by omega
   have HX:Hid (V=⟨m,3,0,(bO P ai).file,(bO P ai).line,(bO P ai).col⟩):=ad.out;obtain⟨gP,ar,az,-,-,-,q3,q4,q5⟩:=cm.step (cm.Va HP.out ap.out.kept) ai hk
   have HQ:Hid (∀F:World,ab [] c F->gP<F.heap.size/\F.cell? ⟨gP,ai*6+3,none⟩=some (.string (bO P ai).file)/\F.cell? ⟨gP,ai*6+4,none⟩=some (.int .i64 (bO P ai).line)/\F.cell? ⟨gP,ai*6+5,none⟩=some (.int .i64 (bO P ai).col)):=fun F kx=>by
    obtain⟨g2,n,h2,-,-,-,c3,c4,c5⟩:=cm.step (cm.Va HP.out kx) ai hk;rw[ar]at n
    cases n
    exact⟨h2,c3,c4,c5⟩
   generalize (bO P ai).file=sf at *;generalize (bO P ai).line=sl at *;generalize (bO P ai).col=sc at *;clear az q3 q4 q5
   go_upto_region 8 with fail
   have Y:Hid (A6 c (w3.setCell ⟨c.heap.size+2,1,none⟩ (.int .i64 3)) ⟨P,0,pf,pl,pc⟩ R ⟨m,3,0,pf,pl,pc⟩):=ap.out.set 1 (.int .i64 3) rfl;obtain⟨X4,bz⟩:∃X4,Hid (w3.setCell ⟨c.heap.size+2,1,none⟩ (.int .i64 3)=X4):=⟨_,rfl⟩
   rw[bz.out]at Y ⊢;clear I J n M K e5 G u E D C B f0 f1 f2 f3 f4 f5 j z0 Q T z3 z4 z5 Z y1 y2 y3 y4 y5 f;obtain⟨I,J,n,M,K,e5⟩:=Y.out.prf;obtain⟨⟨G,u,E,D,C,B⟩,⟨f0,f1,f2,f3,f4,f5⟩,j⟩:=dZ Y.out.r;obtain⟨⟨z0,Q,T,z3,z4,z5⟩,⟨Z,y1,y2,y3,y4,y5⟩,f⟩:=dZ Y.out.z;simp only at G u E D C B;simp only at I J n M K;obtain⟨az,q3,q4,q5⟩:=HQ.out X4 Y.out.kept;rw[ar]at I
   go_upto_region 9 with fail
   have N:Hid (A6 c (((X4.setCell ⟨c.heap.size+2,3,none⟩ (.string sf)).setCell ⟨c.heap.size+2,4,none⟩ (.int .i64 sl)).setCell ⟨c.heap.size+2,5,none⟩ (.int .i64 sc)) ⟨P,0,pf,pl,pc⟩ R ⟨m,3,0,sf,sl,sc⟩):=((Y.out.set (r':=⟨m,3,0,sf,pl,pc⟩) 3 (.string sf) rfl).set (r':=⟨m,3,0,sf,sl,pc⟩) 4 (.int .i64 sl) rfl).set 5 (.int .i64 sc) rfl;obtain⟨X5,br⟩:∃X5,Hid (((X4.setCell ⟨c.heap.size+2,3,none⟩ (.string sf)).setCell ⟨c.heap.size+2,4,none⟩ (.int .i64 sl)).setCell ⟨c.heap.size+2,5,none⟩ (.int .i64 sc)=X5):=⟨_,rfl⟩
   rw[br.out]at N ⊢;clear I J n M K e5 G u E D C B f0 f1 f2 f3 f4 f5 j z0 Q T z3 z4 z5 Z y1 y2 y3 y4 y5 f;obtain⟨I,J,n,M,K,e5⟩:=N.out.prf;obtain⟨⟨G,u,E,D,C,B⟩,⟨f0,f1,f2,f3,f4,f5⟩,j⟩:=dZ N.out.r;obtain⟨⟨z0,Q,T,z3,z4,z5⟩,⟨Z,y1,y2,y3,y4,y5⟩,f⟩:=dZ N.out.z;simp only at G u E D C B;go_wp2;obtain⟨x0,x1,x2,x3,x4,x5⟩:=n8 N.out.z (.string m) (.int .i64 3) (.int .i64 0) (.string sf) (.int .i64 sl) (.int .i64 sc);exact QX (v:=.agg #[.string m,.int .i64 3,.int .i64 0,.string sf,.int .i64 sl,.int .i64 sc]) (by simp[results,results89,go_sem,x0,x1,x2,x3,x4,x5]) rfl ⟨by rw[HX.out];rfl,(((((N.out.kept.setCell (QU (by simp)) _).setCell (QU (by simp)) _).setCell (QU (by simp)) _).setCell (QU (by simp)) _).setCell (QU (by simp)) _).setCell (QU (by simp)) _⟩
structure fB(w:World)(v:Nat)(fs:Fs)(h:Hd)(on:Bool)(p2 p3 p4:Value):Prop where
 d:w.heap[v]?=some (.cells #[.slice h.ao fs.length h.cap,.bool on,p2,p3,p4] 85 (0,0))
 own:aw w h (cr fs)
 far:h.blk≠some v
 le:fs.length<=4
theorem fB.Va(a:fB f n D T y7 N g z6)(k:ab [] f x):fB x n D T y7 N g z6 :=
 ⟨k.get a.d (by simp),a.own.Va k,a.far,a.le⟩
def Dz(w:World)(v:Nat)(h:Hd)(fs:Fs):Prop:=∃on p2 p3 p4,fB w v fs h on p2 p3 p4
theorem fB.keptS(a:fB f n D T y7 N g z6)(k:ab y6 f x)(e:n∉y6)(c:∀q,T.blk=some q->q∉y6):fB x n D T y7 N g z6 :=
 ⟨k.get a.d e,a.own.Vf (fun q b=>k.block q (a.own.lt b) (c q b)),a.far,a.le⟩
theorem aw.putAt{r:dN}(o:aw f T r)(c:T.ao=some ⟨n,0,none⟩)(j:Nat)(v:Value):aw (f.setCell ⟨n,j,none⟩ v) T ⟨r.e,r.size,r.n,r.xs.set j v⟩:=by
 refine⟨by rw[Ru];exact o.1,?_⟩
 rcases o.2 with ⟨d,s⟩ | ⟨u,g,a,d,q,h,i,k,l,m⟩
 ·injection d with b
  rw[b]at c;cases c
 ·injection d with b t p
  rw[b]at c
  cases c
  refine QU ⟨n,g,a.setIfInBounds j v,by rw[b,p],q,by rw[ah h],i,k,by rw[Array.size_setIfInBounds];exact l,?_⟩;rw[TM]
  show(a.toList.set j v).take (r.n*r.size)=r.xs.set j v
  rw[<-m,UL]
theorem aw.srcFi(o:aw f T (cr D)):mU f T.ao T.cap D:=by
 refine⟨?_,fun k d=>?_⟩
 ·rcases o.ways with ⟨e,b,_⟩ | ⟨g,i,m,n,h,-⟩
  ·have b:D.length=0:=b
   omega
  ·exact h
 ·obtain⟨g,a,l,-⟩:=qo o (show 0<D.length by omega)
  obtain⟨j,c⟩:=v8 D k d;exact⟨g,a,l,o.cell a (k*2) _ j,o.cell a (k*2+1) _ c⟩
theorem IV(w:World) :
  Calls prog 28 #[] w fun e a=>e=.returned (.pointer (some ⟨w.heap.size,0,none⟩))/\fB a w.heap.size [] ⟨none,0⟩ false (.pointer none) (.slice none 0 0) (.slice none 0 0)/\ab [] w a:=by
 have b:Hid (fB (w.alloc (.cells #[.slice none 0 0,.bool false,.pointer none,.slice none 0 0,.slice none 0 0] 85)) w.heap.size [] ⟨none,0⟩ false (.pointer none) (.slice none 0 0) (.slice none 0 0)):=⟨QR _ _,QY _ _ _ _,(by intro e;cases e),by simp⟩;go_enter func28,ntmps28;go_wp2;go_ret;exact⟨rfl,b.out,(ab.refl [] _).alloc _⟩
end Go.Proofs.YtpddjjabfbfifaaGreat
