import Derived.Test.YtpddjjabfbfifaaGreatG15
namespace Go.Proofs.YtpddjjabfbfifaaGreat
open Go.RowKit Tryz
set_option maxRecDepth 100000
set_option maxHeartbeats 40000000
variable{f x:World}{v:Sl}{T z7:Hd}{n zb:Nat}{I:List Sl}{i:List ByteArray}{y6:List Nat}{N g z6:Value}{o:jS}{D:Fs}{y7:Bool}(y l H:Nat)(b:List Tk)(d:Option Addr)(a:Nat)(w:List Sm)(M:List ByteArray)(L:List (List ByteArray))(k:Option Addr)(S:Nat)
def LH(T:List Tk)(S:List Sm)(hs:List Nat)(M:List (List ByteArray))(V:List ByteArray)(B:List (List ByteArray))(i:Nat):Int :=
 if GI S hs i=true then(if(((M.getD i []).getD 0 ⟨#[]⟩).toList==((cI T S (hs.getD i 0)).getD 0 ⟨#[]⟩).toList)=true then 0 else 7)
 else if oc (iU V B (cI T S (hs.getD i 0))) (M.getD i [])=true then 0 else 8
def OE(T:List Tk)(S:List Sm)(a:Nat)(V:List ByteArray)(B:List (List ByteArray))(p:ByteArray×ByteArray):Bool:=tL T S a (iU V B [p.1]) (iU V B [p.2])
def pP(T:List Tk)(S:List Sm)(a c:Nat)(hs:List Nat)(M:List (List ByteArray))(V:List ByteArray)(B:List (List ByteArray)):Int :=
 if(dJ (LH T S hs M V B) hs.length==0)=false then dJ (LH T S hs M V B) hs.length else if(fH T S c).all (OE T S a V B)=true then 0 else 9
theorem pR(x:ByteArray)(N:Nat)(b:∀l∈L,l.length<=N)(a:1<=N):(iU M L [x]).length<=N:=by
 unfold iU;rw[RI,List.flatMap_nil,Rl];unfold LZ
 split
 ·rw[QQ]
  cases h:L[wt M x]? with
  | none=>simp
  | some l=>exact b l (R4 h)
 ·simpa using a
theorem NZ(c:∀l∈L,l.length<=S)(a:1<=S)(e:List ByteArray):(iU M L e).length<=S*e.length:=by
 induction e with
 | nil=>exact Ro _
 | cons x e d =>
  have f:=pR M L x S c a;have b:iU M L (x :: e)=iU M L [x]++iU M L e:=by unfold iU;simp
  rw[b,Q0,Rp,Nat.mul_succ];omega
theorem yX(V:List ByteArray)(a:V.length<=10000)(k:Nat):(lg b w S V k).length<=10000*k:=by
 induction k with
 | zero=>simp[lg]
 | succ k c =>
  have:=EY b w S V k V.length;rw[wO,Q0];omega
theorem Jd(c:S<=10000):(fH b w S).length<=100000000:=by
 have a:=kj b w S
 have d:(fO b w (bW b w S) (bW b w S).length).length<=(bW b w S).length:=by
  unfold fO;rw[Ri,RK];exact Sc _ _
 have:=yX b w S (fO b w (bW b w S) (bW b w S).length) (by omega) (fO b w (bW b w S) (bW b w S).length).length;unfold fH;omega
theorem IQ(f:List Nat)(b4:Option Addr)(cH:Nat)(A:List Sl)(bc:Option Addr)(cA:Nat)(V:List ByteArray)(I:Option Addr)(cV:Nat)(B:List Sl)(J:Option Addr)(cB:Nat)(D:World)(hD:fz D y b d a w k S)(ok:nK b w l)(cR:H<l)(cj:bS (au w H).k=false)(hH:qD D b4 f)(F:∀j∈f,j<l/\bS (au w j).k=false)(d9:f.length<=10000)(hA:cm D bc 1 Ff A)(bo:pa D A)(b0:∀s∈A,ge D s.ao s.L)(d2:f.length<=A.length)(d8:A.length<=100000)(hF:∀i,i<f.length->GI w f i=true->1<(cI b w (f.getD i 0)).length)(hN:∀s∈A,0<s.L.length/\s.L.length<=10000)(hV:ge D I V)(hB:cm D J 1 Ff B)(b2:pa D B)(dk:V.length<=B.length)(ck:B.length<=100000)(bf:∀s∈B,s.L.length<=10000) :
  Calls prog 178 #[.pointer (some ⟨y,0,none⟩),.int .i64 l,.int .i64 H,.slice b4 f.length cH,.slice bc A.length cA,.agg #[.slice I V.length cV,.slice J B.length cB]] D fun e u=>e=.returned (.int .i64 (pP b w l H f (A.map (·.L)) V (B.map (·.L))))/\ab [] D u:=by
 obtain⟨W,HW⟩:∃W,Hid (D.alloc (.cells #[.slice I V.length cV,.slice J B.length cB] 271)=W):=⟨_,rfl⟩
 have BW:W.heap[D.heap.size]?=some (.cells #[.slice I V.length cV,.slice J B.length cB] 271 (0,0)):=by rw[<-HW.out];exact QS _ _
 have t:Hid (ab [] D W):=by show ab [] D W;rw[<-HW.out];exact(ab.refl [] _).alloc _
 have hn:=ok.ok.m;have eb:=ok.sm;have ei:=ok.tm;have cc:=hI BW;have HD:=hI (hD.Vb t.out);have aT:=hI ok;have HH:=hI (hH.Vb t.out);have ds:=hI F;have HA:=hI (hA.Vb t.out);have d7:=hI (bo.Vb t.out);have c6:Hid (∀s∈A,∀wx,ab [] D wx->ge wx s.ao s.L):=fun s f wx kx=>(b0 s f).Vb kx
 have HF:=hI hF;have HN:=hI hN;obtain⟨M,bx⟩:∃M,Hid (A.map (·.L)=M):=⟨_,rfl⟩
 obtain⟨o,a6⟩:∃o,Hid (B.map (·.L)=o):=⟨_,rfl⟩
 have a2:Hid (∀(E:List ByteArray) (ag:Option Addr) (cE:Nat) (wx:World),ab [] D wx->ge wx ag E->E.length<=10000->Calls prog 179 #[.agg #[.slice I V.length cV,.slice J B.length cB],.slice ag E.length cE] wx fun e u=>∃h',e=.returned (.slice h'.ao (iU V o E).length h'.cap)/\gw wx u h' (aB (iU V o E))):=fun E ag cE wx kx hE hl=>by rw[<-a6.out];exact CN V I cV B J cB E ag cE wx (hV.Vb kx) (hB.Vb kx) (b2.Vb kx) dk ck hE hl bf
 have Z:Hid (∀dz∈o,dz.length<=10000):=fun dz hl=>by
  rw[<-a6.out]at hl;obtain⟨s,f,rfl⟩:=Si.1 hl;exact bf s f
 have df:Hid (∀c,c<A.length->M.getD c []=(fQ A c).L):=fun c hk=>by rw[<-bx.out];exact wF A c hk
 rw[bx.out,a6.out];have cL:=hI (wI y H b d a w k S);have ct:Hid (cU b (au w H).h):=ok.e H cR cj;have HR:Hid (pP b w l H f M V o=if(dJ (LH b w f M V o) f.length==0)=false then dJ (LH b w f M V o) f.length else if(fH b w H).all (OE b w l V o)=true then 0 else 9):=rfl;clear hD ok hH F hA bo b0 hF hN hV hB b2 bf;go_enter func178,ntmps178
 go_upto_region 1 with fail
 rw[HW.out];go_wp2
 go_loopg [13] f.length (fun g i wr=>∃c:Nat,c<=f.length/\g=f.length-c/\i=.int .i64 c/\Hid (dJ (LH b w f M V o) c=0)/\Hid (ab [] W wr))
 case atStart=>exact⟨0,by omega,rfl,rfl,rfl,ab.refl _ _⟩
 case round =>
  obtain⟨c,hk,hg,rfl,HZ,HK⟩:=hrel;have d4:=hI (t.out.trans HK.out)
  by_cases F:c<f.length
  ·have cu:(c:Int)<(f.length:Int):=by omega
   obtain⟨c8,cf⟩:=ds.out f[c] (Rb F);have T:f[c]<w.length:=by omega
   have az:f.getD c 0=f[c]:=by rw[QQ,QP F];rfl
   obtain⟨gH,rfl,c9,cF⟩:=(qD.Vb HH.out HK.out) c f[c] (QP F);have a5:Hid (Calls prog 72 #[.pointer (some ⟨y,0,none⟩),.int .i64 ((f[c]:Nat):Int)] wr fun e u=>∃h',e=.returned (.slice h'.ao (bu b w[f[c]].h).length h'.cap)/\vj wr u h' (bu b w[f[c]].h)):=kD y f[c] b d a w _ S wr (fz.Vb HD.out HK.out) T (by omega) (by rw[bM w f[c] T];exact aT.out.e f[c] c8 cf);have cb:Hid (bu b w[f[c]].h=cI b w (f.getD c 0)):=by show _=_;unfold cI;rw[az,bM w f[c] T]
   have bw:=kg b w[f[c]].h;rw[cb.out]at a5 bw;have bz:Hid (GI w f c=(w[f[c]].k.toList == [36,102])):=by show _=_;unfold GI;rw[az,bM w f[c] T]
   have aS:=hI (HF.out c F)
   have cq:Hid (∀u:World,ab [] W u->u.cell? ⟨gH,c,none⟩=some (.int .i64 ((f[c]:Nat):Int))/\gH<u.heap.size/\∃gs,k=some ⟨gs,0,none⟩/\gs<u.heap.size/\u.cell? ⟨y,1,none⟩=some (.slice k w.length S)/\y<u.heap.size/\u.cell? ⟨gs,f[c]*4+3,none⟩=some (.string w[f[c]].k)):=fun u kw=>by
    obtain⟨g2,e2,h2,c2⟩:=(qD.Vb HH.out kw) c f[c] (QP F)
    cases e2
    have hd:=fz.Vb HD.out kw;obtain⟨-,s0,hb⟩:=hd.cells;obtain⟨gs,e3,ad,-,-,-,q3⟩:=hd.s.2 f[c] w[f[c]] (QP T);exact⟨c2,h2,gs,e3,ad,s0,hb,q3⟩
   have af:c<A.length:=by omega
   have n:Hid (LH b w f M V o c=if GI w f c=true then(if(((fQ A c).L.getD 0 ⟨#[]⟩).toList==((cI b w (f.getD c 0)).getD 0 ⟨#[]⟩).toList)=true then 0 else 7) else if oc (iU V o (cI b w (f.getD c 0))) (fQ A c).L=true then 0 else 8):=by show _=_;unfold LH;rw[df.out c af]
   have G:Hid ((LH b w f M V o c==0)=false->pP b w l H f M V o=LH b w f M V o c):=fun h=>by
    have:=ou HZ.out h F;rw[HR.out,this,QW h]
   have ac:Hid (LH b w f M V o c=0->dJ (LH b w f M V o) (c+1)=0):=fun h=>by rw[dJ,HZ.out];exact h
   rw[bz.out]at n aS;clear cb bz az cf;have ej:((f[c]:Nat):Int)<(w.length:Int):=by omega
   have ea:(0:Int)<=((f[c]:Nat):Int):=by omega
   obtain⟨X,HX⟩:∃X,Hid (cI b w (f.getD c 0)=X):=⟨_,rfl⟩
   rw[HX.out]at a5 bw n aS;generalize w[f[c]].k=sk at *;generalize f[c]=j at *
   go_upto_region 5 with (go_at_call 72;refine QU a5.out ?_;rintro e w1 ⟨h1,rfl,x1⟩)
   have bd:=hI (HK.out.trans x1.kept);have bT:=hI x1.own.srcX;obtain⟨ca,an,gs,rfl,ad,s0,bv,q3⟩:=cq.out w1 bd.out;obtain⟨a1,c1⟩:=h1;clear cF c9 x1;have bp:=HN.out (fQ A c) (jK A c af);have U:=hI (c6.out (fQ A c) (jK A c af));have be:Hid (∀u:World,ab [] W u->∃gA,bc=some ⟨gA,0,none⟩/\gA<u.heap.size/\u.cell? ⟨gA,c,none⟩=some (.slice (fQ A c).ao (fQ A c).L.length (fQ A c).cap)):=fun u kw=>cm.sl (cm.Vb HA.out kw) c af
   have dv:(c:Int)<(A.length:Int):=by omega
   generalize fQ A c=s at *;obtain⟨c3,b6,sL⟩:=s;simp only at U be bp n;obtain⟨c4,d1⟩:=bp
   cases hf:(sk.toList == [36,102])
   ·rw[hf,QT (by simp)]at n
    go_quiet (fail)
    obtain⟨Q,N⟩:∃Q,Hid (w1.drewN nq=Q):=⟨_,rfl⟩
    go_upto_region 8 with fail
    rw[N.out];have k2:ab [] w1 Q:=by rw[<-N.out];exact(ab.refl [] w1).drewN nq
    have r:=hI (bd.out.trans k2);have BR:=r.out.get cc.out (by simp);have r0:Q.cell? ⟨D.heap.size,0,none⟩=some (.slice I V.length cV):=by rw[aa BR];rfl
    have r1:Q.cell? ⟨D.heap.size,1,none⟩=some (.slice J B.length cB):=by rw[aa BR];rfl
    have c0:=ae BR;have R:=hI (a2.out X a1 c1 Q (t.out.trans r.out) (ge.Vb bT.out k2) (by omega));have dp:=NZ V o 10000 Z.out (by omega) X;obtain⟨Y,HY⟩:∃Y,Hid (iU V o X=Y):=⟨_,rfl⟩
    rw[HY.out]at R n dp;clear ca an ad s0 bv q3 N
    go_upto_region 9 with (go_at_call 179;refine QU R.out ?_;rintro e w3 ⟨h3,rfl,x3⟩)
    have K:=hI (r.out.trans x3.kept);obtain⟨gA,rfl,db,cs⟩:=be.out w3 K.out;have a7:=hI (C0 Y sL h3.ao c3 h3.cap b6 w3 x3.own.srcX (U.out w3 (t.out.trans K.out)) (by omega));obtain⟨sm,c5⟩:∃sm,Hid (oc Y sL=sm):=⟨_,rfl⟩
    rw[c5.out]at a7 n;clear x3 r0 r1 c0
    cases sm
    ·rw[QT (by simp)]at n
     have O:=hI (G.out (by rw[n.out];rfl));rw[n.out]at O;go_wp2_with (go_at_call 133;refine QU a7.out ?_;rintro e w4 ⟨rfl,k4⟩;have C:=hI (K.out.trans k4);clear k4);go_ret;exact⟨QN O.out.symm,t.out.trans C.out⟩
    ·rw[QW rfl]at n
     have O:=hI (ac.out n.out);go_wp2_with (go_at_call 133;refine QU a7.out ?_;rintro e w4 ⟨rfl,k4⟩;have C:=hI (K.out.trans k4);clear k4)
     go_roundg (f.length-(c+1))
     case measure=>omega
     case rel=>exact⟨c+1,by omega,rfl,by go_num,O,C⟩
   ·rw[hf,QW rfl]at n
    have eg:=aS.out hf;obtain⟨gX,eX,bj,cX⟩:=bT.out 0 _ (mm X 0 (by omega));replace eX:a1=some ⟨gX,0,none⟩:=eX;subst eX
    go_quiet (fail)
    obtain⟨Q,N⟩:∃Q,Hid (w1.drewN nq=Q):=⟨_,rfl⟩
    go_upto_region 6 with fail
    rw[N.out];have k2:ab [] w1 Q:=by rw[<-N.out];exact(ab.refl [] w1).drewN nq
    have r:=hI (bd.out.trans k2);obtain⟨gA,rfl,db,cs⟩:=be.out Q r.out;obtain⟨g0,es,ef,d6⟩:=U.out Q (t.out.trans r.out) 0 _ (mm sL 0 c4);subst es;have eh:Q.cell? ⟨gX,0,none⟩=some (.string (X.getD 0 ⟨#[]⟩)):=by rw[Q6 (k2.block gX bj (by simp))];exact cX
    have dt:=QX bj k2.size;have ec:(0:Int)<(X.length:Int):=by omega
    have dT:(0:Int)<(sL.length:Int):=by omega
    generalize sL.getD 0 ⟨#[]⟩=x at *;generalize X.getD 0 ⟨#[]⟩=ai at *;clear ca an ad s0 bv q3 N cX k2 nq
    cases br:(x.toList==ai.toList)
    ·rw[br,QT (by simp)]at n
     have O:=hI (G.out (by rw[n.out];rfl));rw[n.out]at O
     go_quiet (fail)
     have C:=hI (r.out.trans ((ab.refl [] Q).drewN nq));go_wp2;go_ret;exact⟨QN O.out.symm,t.out.trans C.out⟩
    ·rw[br,QW rfl]at n
     have O:=hI (ac.out n.out)
     go_quiet (fail)
     have C:=hI (r.out.trans ((ab.refl [] Q).drewN nq));go_wp2
     go_roundg (f.length-(c+1))
     case measure=>omega
     case rel=>exact⟨c+1,by omega,rfl,by go_num,O,C⟩
  ·have e:c=f.length:=by omega
   subst e;rw[HZ.out,QT (by decide)]at HR;have cu:¬(f.length:Int)<(f.length:Int):=by omega
   have R:=hI (cL.out wr (fz.Vb HD.out HK.out) (aT.out.mono (by omega)) (by omega) ct.out);obtain⟨v,b3⟩:∃v,Hid (fH b w H=v):=⟨_,rfl⟩
   rw[b3.out]at R HR
   go_upto_region 13 with (go_at_call 64;refine QU R.out ?_;rintro e w2 ⟨h2,rfl,x2⟩)
   have r:=hI (HK.out.trans x2.kept);have co:=hI (x2.own.srcG LY);have d0:v.length<=100000000:=by rw[<-b3.out];exact Jd b w H (by omega)
   obtain⟨ap,cp⟩:=h2;clear x2 R HZ;go_wp2
   go_loopg [18] v.length (fun g i wr=>∃m:Nat,m<=v.length/\g=v.length-m/\i=.int .i64 m/\Hid (∀q (P:q<v.length),q<m->OE b w l V o v[q]=true)/\Hid (ab [] w2 wr))
   case atStart=>exact⟨0,by omega,rfl,rfl,(fun q _ h=>by omega),ab.refl _ _⟩
   case round =>
    obtain⟨m,hm,d3,rfl,bg,K⟩:=hrel;have C:=hI (r.out.trans K.out)
    by_cases al:m<v.length
    ·have cz:(m:Int)<(v.length:Int):=by omega
     obtain⟨gP,eP,ba,cP⟩:=co.out m v[m] (QP al);subst eP
     have bl:Hid (∀u:World,ab [] w2 u->u.cell? ⟨gP,m*2,none⟩=some (.string v[m].1)/\u.cell? ⟨gP,m*2+1,none⟩=some (.string v[m].2)/\gP<u.heap.size/\u.cell? ⟨D.heap.size,0,none⟩=some (.slice I V.length cV)/\u.cell? ⟨D.heap.size,1,none⟩=some (.slice J B.length cB)/\D.heap.size<u.heap.size):=fun u kw=>by
      have BR:=(r.out.trans kw).get cc.out (by simp);exact⟨by rw[Q6 (kw.block gP ba (by simp))];exact cP 0 _ rfl,by rw[Q6 (kw.block gP ba (by simp))];exact cP 1 _ rfl,QX ba kw.size,by rw[aa BR];rfl,by rw[aa BR];rfl,ae BR⟩
     have ch:Hid (OE b w l V o v[m]=tL b w l (iU V o [v[m].1]) (iU V o [v[m].2])):=rfl
     have G:Hid (OE b w l V o v[m]=false->pP b w l H f M V o=9):=fun h=>by
      rw[HR.out,QT];rw[Sn];intro bk;have:=bk v[m] (Rb al);rw[h]at this;cases this
     have ac:Hid (OE b w l V o v[m]=true->∀q (P:q<v.length),q<m+1->OE b w l V o v[q]=true):=fun h q P h2=>by
      by_cases e:q=m
      ·subst e;exact h
      ·exact bg.out q P (by omega)
     generalize OE b w l V o v[m]=mp at *;generalize v[m].1=x at *;generalize v[m].2=ai at *;clear cP;obtain⟨cx,cy,ar,v0,v1,bs⟩:=bl.out wr K.out;have dl:=pR V o x 10000 Z.out (by omega);have d5:=pR V o ai 10000 Z.out (by omega)
     have b1:Hid (ge (wr.alloc (.cells #[.string x] 9)).drew (some ⟨wr.heap.size,0,none⟩) [x]):=by
      intro q z P;have hk:(wr.alloc (.cells #[.string x] 9)).drew.heap[wr.heap.size]?=some (.cells #[.string x] 9 (0,0)):=QS _ _;refine⟨_,rfl,ae hk,?_⟩;rw[aa hk]
      match q,P with
      | 0,P=>simp at P;subst P;rfl
     go_upto_region 16 with fail
     go_region_with (go_at_call 179;refine(a2.out [x] (some ⟨wr.heap.size,0,none⟩) 1 _ (by exact((t.out.trans C.out).alloc _).drew) (by exact b1.out) (by simp)).mono ?_;rintro e w5 ⟨h5,rfl,x5⟩)
     all_goals
      have a0:Hid (ab [] w2 w5):=((K.out.alloc _).drew).trans x5.kept;have b5:=hI x5.own.srcX;obtain⟨PX,c7⟩:∃PX,Hid (iU V o [x]=PX):=⟨_,rfl⟩
      rw[c7.out]at b5 dl ch ⊢
      have cl:Hid (ge (w5.alloc (.cells #[.string ai] 9)).drew (some ⟨w5.heap.size,0,none⟩) [ai]):=by
       intro q z P;have hk:(w5.alloc (.cells #[.string ai] 9)).drew.heap[w5.heap.size]?=some (.cells #[.string ai] 9 (0,0)):=QS _ _;refine⟨_,rfl,ae hk,?_⟩;rw[aa hk]
       match q,P with
       | 0,P=>simp at P;subst P;rfl
      clear cx cy ar v0 v1 bs x5 b1;obtain⟨cx,cy,ar,v0,v1,bs⟩:=bl.out w5 a0.out
      go_upto_region 17 with fail
      go_region_with (go_at_call 179;refine(a2.out [ai] (some ⟨w5.heap.size,0,none⟩) 1 _ (by exact(((t.out.trans r.out).trans a0.out).alloc _).drew) (by exact cl.out) (by simp)).mono ?_;rintro e w6 ⟨h6,rfl,x6⟩)
      all_goals
       have a4:Hid (ab [] w2 w6):=((a0.out.alloc _).drew).trans x6.kept;have a3:=hI (Hz y l PX (iU V o [ai]) h5.ao h6.ao h5.cap h6.cap b d a w k S w6 (fz.Vb HD.out (r.out.trans a4.out)) aT.out (ge.Vb b5.out ((((ab.refl [] w5).alloc _).drew).trans x6.kept)) x6.own.srcX (by omega) (by omega));rw[<-ch.out]at a3;clear x6
       cases mp
       ·have O:=hI (G.out rfl)
        go_wp2_with (go_at_call 214;refine QU a3.out ?_;rintro e w7 ⟨rfl,k7⟩;have ax:=(show Hid _ from(r.out.trans a4.out).trans k7);clear k7);go_ret;exact⟨QN O.out.symm,t.out.trans ax.out⟩
       ·have O:=hI (ac.out rfl)
        go_wp2_with (go_at_call 214;refine QU a3.out ?_;rintro e w7 ⟨rfl,k7⟩;have ax:=hI (a4.out.trans k7);clear k7)
        go_roundg (v.length-(m+1))
        case measure=>omega
        case rel=>exact⟨m+1,by omega,rfl,by go_num,O,ax⟩
    ·have em:m=v.length:=by omega
     have O:Hid (pP b w l H f M V o=0):=by
      show _=_
      rw[HR.out,QW];rw[Sn];intro p hp;obtain⟨q,P,e⟩:=R0 hp;rw[<-e];exact bg.out q P (by omega)
     have cz:¬(m:Int)<(v.length:Int):=by omega
     go_wp2;go_ret;exact⟨QN O.out.symm,t.out.trans C.out⟩
def ui(T:List Tk)(S:List Sm)(a:Nat)(P:List dj)(i:Nat)(M:List (List ByteArray)):List ByteArray×Int :=
 if(bO P i).ref=-2 then(M.getD (bO P i).back [],0)
 else if aC (au S (bO P i).ref.toNat).k=false then(if 32<(cI T S (bO P i).ref.toNat).length then([],10) else(cI T S (bO P i).ref.toNat,0))
 else if dS P i<0 then([],6)
 else
  let hs:=bW T S (bO P i).ref.toNat
  let on:=(mJ P i).map (fun q=>M.getD q [])
  let why:=pP T S a (bO P i).ref.toNat hs on (gK T S hs hs.length) (gi S hs on hs.length)
  if(why==0)=false then([],why)
  else if 32<(iU (gK T S hs hs.length) (gi S hs on hs.length) (cI T S (bO P i).ref.toNat)).length then([],10)
  else(iU (gK T S hs hs.length) (gi S hs on hs.length) (cI T S (bO P i).ref.toNat),0)
structure oo(w:World)(s:Sl):Prop where
 ok:pr w s
 x:ge w s.ao s.L
 pos:0<s.L.length
 le:s.L.length<=10000
theorem oo.Vb(h:oo f v)(k:ab [] f x):oo x v:=⟨h.ok.Vb k,h.x.Vb k,h.pos,h.le⟩
def Kk(T:List Tk)(S:List Sm)(n:Nat):Prop:=∀j,j<n->(aC (au S j).k||aG (au S j).k)=true->0<(cI T S j).length/\(((au S j).k.toList == [36,102])=true->1<(cI T S j).length)
structure Kv(T:List Tk)(S:List Sm)(a:Nat)(P:List dj)(i:Nat):Prop where
 Vm:((bO P i).ref=-2/\(bO P i).back<i)∨∃r,r<a/\(bO P i).ref=(r:Nat)/\(aC (au S r).k||aG (au S r).k)=true/\(aC (au S r).k=true->(bO P i).need=(bW T S r).length)
theorem yG:∀j∈bW b w S,j<S/\bS (au w j).k=false/\aG (au w j).k=true:=fun j c=>by
 have d:=sK b w S j c;have a:=(RH.1 c).2;unfold sJ at a;rw[Rg,RB,Rg]at a
 rcases a.2 with h | ⟨h,-⟩
 ·exact⟨d,fX h (by decide),by unfold aG;rw[h];simp⟩
 ·exact⟨d,fX h (by decide),by unfold aG;rw[h];simp⟩
def Ku(w:World)(A:List Sl)(r:List ByteArray×Int)(e:Ending)(w':World):Prop:=∃s:Sl,e=.returned (.tuple #[.slice s.ao s.L.length s.cap,.int .i64 r.2])/\s.L=r.1/\((r.2==0)=true->oo w' s)/\(s∈A∨∀q o,s.ao=some ⟨q,o,none⟩->w.heap.size<=q)/\ab [] w w'
theorem KN(e:T.ao=some ⟨n,zb,none⟩):T.blk=some n:=by unfold Hd.blk;rw[e];rfl
theorem qy{r:List ByteArray×Int}{e:Ending}(b:r.1=[])(c:(r.2==0)=false)(a:e=.returned (.tuple #[.slice none 0 0,.int .i64 r.2]))(k:ab [] f x):Ku f I r e x :=
 ⟨⟨none,0,[]⟩,a,b.symm,fun h=>(by rw[c]at h;cases h),QV (fun q o e=>by cases e),k⟩
theorem gw.sh(a:gw f x T (aB i))(c:0<i.length)(b:i.length<=10000):oo x ⟨T.ao,T.cap,i⟩:=⟨a.sl,a.own.srcX,c,b⟩
theorem xK{α:Type}(R:List Nat)(f:Nat->α)(k:Nat)(h:k<R.length):(R.take (k+1)).map f=(R.take k).map f++[f R[k]]:=by
 rw[RG h,Ry];rfl
theorem Lq{x:ByteArray}(h:aJ i x=false):wt i x=i.length:=by
 refine Lp rfl (fun j a _=>?_);unfold aJ at h;rw[TH]at h;have:=h i[j] (Rb a);simpa using this
theorem N0{B:List (List ByteArray)}{X:List ByteArray}(a:0<X.length)(h:aJ i (X.getD 0 ⟨#[]⟩)=false):0<(iU i B X).length:=by
 cases X with
 | nil=>simp at a
 | cons x X =>
  have e:(x :: X).getD 0 ⟨#[]⟩=x:=rfl;rw[e]at h;unfold iU;rw[RI,Q0];unfold LZ;rw[Lq h,QT (by omega)];simp;omega
theorem Jo{S:List Sm}{M:List (List ByteArray)}(h:∀l∈M,l.length<=zb):∀l∈gi S y6 M n,l.length<=zb:=by
 intro l a;unfold gi at a;obtain⟨i,-,rfl⟩:=Si.1 a;rw[RT,QQ]
 cases e:M[i]? with
 | none=>simp
 | some m=>have:=h m (R4 e);show m.length-1<=zb;omega
def OL(T:List Tk)(S:List Sm)(n:Nat):Prop:=∀r,r<n->aC (au S r).k=true->aJ (gK T S (bW T S r) (bW T S r).length) ((cI T S r).getD 0 ⟨#[]⟩)=false
theorem JL(P:List dj)(an:Option Addr)(cP:Nat)(bx:Int)(pf:ByteArray)(pl pc:Int)(A:List Sl)(dl:Option Addr)(cA:Nat)(t:World)(hD:fz t y b d a w k S)(ok:nK b w l)(hB:Kk b w l)(c8:OL b w l)(hn:l<w.length)(hP:cm t an 6 kV P)(ct:P.length<=100000000)(bd:M0 P)(hi:H<P.length)(cy:Kv b w l P H)(hA:cm t dl 1 Ff A)(cu:∀s∈A,oo t s)(fp:A.length=H) :
  Calls prog 131 #[.pointer (some ⟨y,0,none⟩),.int .i64 l,.agg #[.slice an P.length cP,.int .i64 bx,.string pf,.int .i64 pl,.int .i64 pc],.int .i64 H,.slice dl A.length cA] t fun e w'=>Ku t A (ui b w l P H (A.map (·.L))) e w':=by
 obtain⟨W,HW⟩:∃W,Hid (t.alloc (.cells #[.slice an P.length cP,.int .i64 bx,.string pf,.int .i64 pl,.int .i64 pc] 122)=W):=⟨_,rfl⟩
 have BW:W.heap[t.heap.size]?=some (.cells #[.slice an P.length cP,.int .i64 bx,.string pf,.int .i64 pl,.int .i64 pc] 122 (0,0)):=by rw[<-HW.out];exact QS _ _
 have cL:Hid (ab [] t W):=by show ab [] t W;rw[<-HW.out];exact(ab.refl [] _).alloc _
 have p0:W.cell? ⟨t.heap.size,0,none⟩=some (.slice an P.length cP):=by rw[aa BW];rfl
 have d9:=ae BW;have fl:(H:Int)<(P.length:Int):=by omega
 obtain⟨gP,rfl,eH,q0,q1,q2,q3,q4,q5⟩:=cm.step (hP.Vb cL.out) H hi;have HP:=hI hP;have HD:=hI hD;have ag:=hI ok;have d7:=hI hB;have ev:=hI c8;have HA:=hI hA;have dk:=hI cu;have fd:=ok.sm;have fu:=ok.tm;have fr:=hI bd;obtain⟨M,cV⟩:∃M,Hid (A.map (·.L)=M):=⟨_,rfl⟩
 have d4:Hid (∀i,i<A.length->M.getD i []=(fQ A i).L):=fun i hk=>by rw[<-cV.out];exact wF A i hk
 rw[cV.out];have eq:=hI (tJ P (some ⟨gP,0,none⟩) cP bx pf pl pc ct bd (H+1) H);have dv:Hid (∀f,cm f (some ⟨gP,0,none⟩) 6 kV P->0<=dS P H->Calls prog 102 #[.agg #[.slice (some ⟨gP,0,none⟩) P.length cP,.int .i64 bx,.string pf,.int .i64 pl,.int .i64 pc],.int .i64 H] f fun e w'=>∃g,e=.returned (.slice (some ⟨g,0,none⟩) (bO P H).need (bO P H).need)/\nG w' g (mJ P H)/\ab [] f w'):=fun f h1 h2=>Jx P _ cP bx pf pl pc H f ct bd hi h1 h2
 have ar:=hI (Jy P H);have dt:=hI (Mj P H)
 have c:Hid (ui b w l P H M=if(bO P H).ref=-2 then(M.getD (bO P H).back [],0)
  else if aC (au w (bO P H).ref.toNat).k=false then(if 32<(cI b w (bO P H).ref.toNat).length then([],10) else(cI b w (bO P H).ref.toNat,0))
  else if dS P H<0 then([],6)
  else
   let n:=bW b w (bO P H).ref.toNat
   let on:=(mJ P H).map (fun q=>M.getD q [])
   let F:=pP b w l (bO P H).ref.toNat n on (gK b w n n.length) (gi w n on n.length)
   if(F==0)=false then([],F)
   else if 32<(iU (gK b w n n.length) (gi w n on n.length) (cI b w (bO P H).ref.toNat)).length then([],10)
   else(iU (gK b w n n.length) (gi w n on n.length) (cI b w (bO P H).ref.toNat),0)):=rfl
 have af:=cy.Vm;have e2:=hI BW;clear cy hD ok hB hP hA cu bd c8;obtain⟨iL,eg,c2,cB,c0⟩:=Re Ej;generalize bO P H=st at *;obtain⟨sr,sb,T,sf,sl,sc⟩:=st;simp only at q0 q1 q2 q3 q4 q5 af c dv ar;obtain⟨W1,a2⟩:∃W1,Hid (W.alloc (.cells #[.int .i64 sr,.int .i64 (sb:Int),.int .i64 (T:Int),.string sf,.int .i64 sl,.int .i64 sc] 162)=W1):=⟨_,rfl⟩
 have B1:W1.heap[W.heap.size]?=some (.cells #[.int .i64 sr,.int .i64 (sb:Int),.int .i64 (T:Int),.string sf,.int .i64 sl,.int .i64 sc] 162 (0,0)):=by rw[<-a2.out];exact QS _ _
 have cp:ab [] W W1:=by rw[<-a2.out];exact(ab.refl [] _).alloc _
 have U:=hI (cL.out.trans cp)
 have I:Hid (∀f:World,ab [] W1 f->(f.cell? ⟨W.heap.size,0,none⟩=some (.int .i64 sr)/\f.cell? ⟨W.heap.size,1,none⟩=some (.int .i64 (sb:Int))/\W.heap.size<f.heap.size)/\(f.cell? ⟨t.heap.size,0,none⟩=some (.slice (some ⟨gP,0,none⟩) P.length cP)/\f.cell? ⟨t.heap.size,1,none⟩=some (.int .i64 bx)/\f.cell? ⟨t.heap.size,2,none⟩=some (.string pf)/\f.cell? ⟨t.heap.size,3,none⟩=some (.int .i64 pl)/\f.cell? ⟨t.heap.size,4,none⟩=some (.int .i64 pc)/\t.heap.size<f.heap.size)):=fun f kx=>by
  have b1:=kx.get B1 (by simp);have b0:=(cp.trans kx).get e2.out (by simp);exact⟨⟨by rw[aa b1];rfl,by rw[aa b1];rfl,ae b1⟩,by rw[aa b0];rfl,by rw[aa b0];rfl,by rw[aa b0];rfl,by rw[aa b0];rfl,by rw[aa b0];rfl,ae b0⟩
 clear B1 cp BW;obtain⟨⟨Q,s1,p⟩,p1,p2,p3,p4,p5,C⟩:=I.out W1 (ab.refl _ _)
 rcases af with ⟨rfl,fv⟩ | ⟨r,hr,rfl,a1,be⟩
 ·rw[QW rfl]at c
  have bc:sb<A.length:=by omega
  have fx:(sb:Int)<(A.length:Int):=by omega
  obtain⟨gA,rfl,eY,b4⟩:=cm.sl (cm.Vb HA.out U.out) sb bc;have HO:=(show Hid _ from(dk.out (fQ A sb) (jK A sb bc)).Vb U.out);have ex:Hid (fQ A sb∈A):=jK A sb bc;rw[d4.out sb bc]at c;generalize fQ A sb=s at *;obtain⟨N,u,sL⟩:=s;simp only at b4 c;go_enter func131,ntmps131
  go_upto_region 1 with fail
  rw[HW.out]
  go_upto_region 2 with fail
  rw[a2.out];go_wp2;go_ret2;rw[c.out];exact⟨⟨N,u,sL⟩,rfl,rfl,fun _=>HO.out,Q1 ex.out,U.out⟩
 ·have K:r<w.length:=by omega
  rw[QT (by omega),Sa]at c;have fb:(((r:Nat):Int) == -2)=false:=UV (by omega);have fq:((r:Nat):Int)<(w.length:Int):=by omega
  have fs:(0:Int)<=((r:Nat):Int):=by omega
  have v:bS (au w r).k=false:=by
   unfold aC aG at a1;simp only[Bool.or_eq_true]at a1
   rcases a1 with (h | h) | (h | h) <;> exact fX h (by decide)
  have c1:Hid (∀f,ab [] t f->Calls prog 72 #[.pointer (some ⟨y,0,none⟩),.int .i64 ((r:Nat):Int)] f fun e w'=>∃h',e=.returned (.slice h'.ao (cI b w r).length h'.cap)/\vj f w' h' (cI b w r)):=fun f kx=>by
   have:=kD y r b d a w k S f (fz.Vb HD.out kx) K (by omega) (by rw[bM w r K];exact ag.out.e r hr v);rw[bM w r K]at this;exact this
  obtain⟨cb,-⟩:=d7.out r hr a1;have et:(cI b w r).length<=b.length:=kg b _;obtain⟨X,HX⟩:∃X,Hid (cI b w r=X):=⟨_,rfl⟩
  rw[HX.out]at c1 c cb et
  have ej:Hid (∀f:World,ab [] t f->∃gs,k=some ⟨gs,0,none⟩/\gs<f.heap.size/\f.cell? ⟨y,1,none⟩=some (.slice k w.length S)/\y<f.heap.size/\f.cell? ⟨gs,r*4+3,none⟩=some (.string (au w r).k)):=fun f kx=>by
   have hd:=fz.Vb HD.out kx;obtain⟨-,Q,G⟩:=hd.cells;obtain⟨gs,e3,cc,-,-,-,q3⟩:=hd.s.2 r w[r] (QP K);rw[bM w r K]at q3;exact⟨gs,e3,cc,Q,G,q3⟩
  have df:=hI (c1.out W1 U.out);go_enter func131,ntmps131
  go_upto_region 1 with fail
  rw[HW.out]
  go_upto_region 2 with fail
  rw[a2.out];clear q0 q1 q2 q3 q4 q5 p0 eH d9
  go_upto_region 5 with (go_at_call 72;refine QU df.out ?_;rintro e w2 ⟨h2,rfl,x2⟩)
  have cx:=hI (U.out.trans x2.kept);have cR:=hI x2.kept;have ez:=hI x2.toL;clear x2 Q s1 p p1 p2 p3 p4 p5 C;obtain⟨⟨Q,s1,p⟩,p1,p2,p3,p4,p5,C⟩:=I.out w2 cR.out;obtain⟨gs,rfl,cc,t0,er,t1⟩:=ej.out w2 cx.out;obtain⟨sk,cE⟩:∃sk,Hid ((au w r).k=sk):=⟨_,rfl⟩
  rw[cE.out]at t1 c be;obtain⟨bf,cj⟩:∃bf,Hid (aC sk=bf):=⟨_,rfl⟩
  have c4:Hid (∀f,Calls prog 122 #[.string sk] f fun e w'=>e=.returned (.bool bf)/\w'=f):=fun f=>by rw[<-cj.out];exact fT sk f
  rw[cj.out]at c be
  go_quiet ((go_at_call 122;exact Rd (c4.out _)))
  go_upto_region 6 with fail
  obtain⟨w3,cl⟩:∃w3,Hid (w2.drewN nq=w3):=⟨_,rfl⟩
  rw[cl.out];have k3:ab [] w2 w3:=by rw[<-cl.out];exact(ab.refl [] w2).drewN nq
  have aT:=hI (cx.out.trans k3);have cz:=hI (cR.out.trans k3);have ca:=hI (ez.out.Vb k3);clear Q s1 p p1 p2 p3 p4 p5 C cc t0 er t1 k3 cl c4;obtain⟨⟨Q,s1,p⟩,p1,p2,p3,p4,p5,C⟩:=I.out w3 cz.out
  cases bf
  ·rw[QW rfl]at c
   by_cases ax:32<X.length
   ·rw[QW ax]at c
    have az:(32:Int)<(X.length:Int):=by omega
    go_wp2;go_ret2;rw[c.out];exact qy rfl rfl rfl aT.out
   ·rw[QT ax]at c
    have az:¬(32:Int)<(X.length:Int):=by omega
    go_wp2;go_ret2;rw[c.out];exact⟨⟨h2.ao,h2.cap,X⟩,rfl,rfl,fun _=>ca.out.sh cb (by omega),QV (fun q o e=>Q3 U.out.size (ca.out.far q (KN e))),aT.out⟩
  ·rw[QT (by simp)]at c
   have cq:Hid (T=(bW b w r).length):=be rfl;clear be;have ck:=hI (eq.out w3 (by omega) hi (cm.Vb HP.out aT.out))
   by_cases c9:dS P H<0
   ·rw[QW c9]at c
    generalize dS P H=bg at *;go_wp2_with (go_at_call 132;refine QU ck.out ?_;rintro e w4 ⟨rfl,k4⟩;have a6:=hI (aT.out.trans k4);clear k4);go_ret2;rw[c.out];exact qy rfl rfl rfl a6.out
   ·rw[QT c9]at c
    have d8:Hid (∀f,ab [] t f->Calls prog 102 #[.agg #[.slice (some ⟨gP,0,none⟩) P.length cP,.int .i64 bx,.string pf,.int .i64 pl,.int .i64 pc],.int .i64 H] f fun e w'=>∃g,e=.returned (.slice (some ⟨g,0,none⟩) T T)/\nG w' g (mJ P H)/\ab [] f w'):=fun f kx=>dv.out f (cm.Vb HP.out kx) (by omega)
    have a3:=hI (dt.out (by omega));obtain⟨R,HR⟩:∃R,Hid (mJ P H=R):=⟨_,rfl⟩
    rw[HR.out]at d8 a3 c ar;generalize dS P H=bg at *
    go_upto_region 11 with (go_at_call 132;refine QU ck.out ?_;rintro e w4 ⟨rfl,k4⟩)
    have a6:=hI (aT.out.trans k4);have d2:=hI (cz.out.trans k4);have eE:=hI (ca.out.Vb k4);clear Q s1 p p1 p2 p3 p4 p5 C k4;obtain⟨⟨Q,s1,p⟩,p1,p2,p3,p4,p5,C⟩:=I.out w4 d2.out;have bl:=hI (d8.out w4 a6.out)
    go_upto_region 14 with (go_at_call 102;refine QU bl.out ?_;rintro e w5 ⟨g5,rfl,i5,k5⟩)
    have em:=hI (a6.out.trans k5);have eA:=hI (d2.out.trans k5);have e0:=hI (eE.out.Vb k5);have en:=hI i5;have ea:Hid (gw w5 w5 ⟨none,0⟩ (lA [])):=⟨QZ _ _ _ _,(by intro i hk;cases hk),ab.refl _ _⟩;clear Q s1 p p1 p2 p3 p4 p5 C k5 i5 bl ck;have e9:T<=10000:=by rw[cq.out];have:=kj b w r;omega
    go_wp2
    go_loopg [17,18] T (fun g o kv wr=>∃(i:Nat) (h:Hd) (O:List Sl),i<=T/\g=T-i/\o=.slice h.ao O.length h.cap/\kv=.int .i64 i/\O.length<=i/\Hid (O=(R.take i).map (fQ A))/\Hid (gw w5 wr h (lA O)))
    case atStart=>exact⟨0,⟨none,0⟩,[],by omega,rfl,rfl,rfl,QR _,by show _=_;simp,ea⟩
    case round =>
     obtain⟨i,h,O,hk,hg,rfl,rfl,ft,HO,D⟩:=hrel;have b6:=hI (em.out.trans D.out.kept);have d3:=hI (eA.out.trans D.out.kept)
     by_cases eb:i<T
     ·have eo:(i:Int)<(T:Int):=by omega
      have bz:i<R.length:=by rw[ar.out];exact eb
      have e8:=a3.out R[i] (Rb bz);have eB:R[i]<A.length:=by omega
      obtain⟨g6,e6,fo,c6⟩:=(nG.src (show nG wr g5 R from D.out.kept.get en.out (by simp))) i R[i] (QP bz)
      cases e6
      obtain⟨gA,rfl,eY,b4⟩:=cm.sl (cm.Vb HA.out b6.out) R[i] eB;have eL:Hid (O++[fQ A R[i]]=(R.take (i+1)).map (fQ A)):=by show _=_;rw[xK R _ i bz,HO.out]
      have e7:((R[i]:Nat):Int)<(A.length:Int):=by omega
      have fi:(0:Int)<=((R[i]:Nat):Int):=by omega
      generalize fQ A R[i]=s at *;generalize R[i]=q at *;obtain⟨N,u,sL⟩:=s;simp only at b4;have eP:=D.out.own;have ei:(lA O).n<=900000000:=by show O.length<=_;omega
      go_wp2_with (at_builtin;refine bN _ rfl (.tmp 70) (.tmp 78) 218 rfl iL (.slice none 0 0) 24 h (lA O) [.slice N sL.length u] underlying218 eg c2 cB c0 rfl Rc rfl eP ei (by omega) rfl rfl (by simp[Value.oneCell']) ?_;intro h7 w7 co cF;rw[show([.slice N sL.length u]:List Value)=Ff ⟨N,u,sL⟩ from rfl,qw]at co;have el:=hI (D.out.Vl cF co);clear co cF)
      go_roundg (T-(i+1))
      case measure=>omega
      case rel=>exact⟨i+1,h7,O++[⟨N,u,sL⟩],by omega,rfl,by simp[lA,kU],by go_num,by simp;omega,eL,el⟩
     ·have ek:i=T:=by omega
      subst ek;have b5:Hid (O=R.map (fQ A)):=by show _=_;rw[HO.out,Tu (by rw[ar.out];exact QR _)]
      have a0:Hid (O.length=i):=by show _=_;rw[b5.out,Ri,ar.out]
      have eS:Hid (O.map (·.L)=R.map (fun q=>M.getD q [])):=by
       show _=_
       rw[b5.out,List.map_map];refine Ux (fun q hq=>?_);have:=a3.out q hq;exact(d4.out q (by omega)).symm
      have z:Hid (∀s∈O,∀f,ab [] t f->oo f s):=fun s n f kx=>by
       rw[b5.out]at n;obtain⟨q,hq,rfl⟩:=Si.1 n;have:=a3.out q hq;exact(dk.out _ (jK A q (by omega))).Vb kx
      have eo:¬(i:Int)<(i:Int):=by omega
      rw[<-eS.out]at c;have cf:=hI (nP y r b d a w _ S wr (fz.Vb HD.out b6.out) (ag.out.mono (by omega)) K (ag.out.e r hr v));have aS:=hI (yG b w r);have a4:=hI (ev.out r hr (by rw[cE.out];exact cj.out));rw[HX.out]at a4;have bT:(bW b w r).length<=10000:=by have:=kj b w r;omega
      obtain⟨m,eh⟩:∃m,Hid (bW b w r=m):=⟨_,rfl⟩
      rw[eh.out]at cf aS c cq a4 bT;obtain⟨⟨Q,s1,p⟩,-⟩:=I.out wr d3.out
      go_upto_region 20 with (go_at_call 62;refine QU cf.out ?_;rintro e w7 ⟨h7,rfl,x7⟩)
      have ad:=hI (b6.out.trans x7.kept);have ep:=hI (d3.out.trans x7.kept);have ey:=(show Hid _ from(e0.out.Vb D.out.kept).Vb x7.kept);have e1:=hI (D.out.Vb x7.kept);have bp:=hI x7.own.srcN;have bo:=hI (e1.out.own.srcG vw)
      have d1:∀H,H<m.length->GI w m H=true->1<(cI b w (m.getD H 0)).length:=fun q hq ch=>by
       have e:m.getD q 0=m[q]:=by rw[QQ,QP hq];rfl
       unfold GI at ch;rw[e]at ch ⊢;obtain⟨j1,-,j3⟩:=aS.out m[q] (Rb hq);exact(d7.out m[q] (by omega) (by rw[j3];simp)).2 ch
      have c3:=hI d1;have bs:m.length<=O.length:=by rw[a0.out,cq.out];exact QR _
      have d5:O.length<=100000:=by have:=a0.out;omega
      have al:=hI (Ju y l b d a w _ S m h7.ao h7.cap O h.ao h.cap w7 (fz.Vb HD.out ad.out) ag.out bp.out (fun j hj=>by have:=(aS.out j hj).1;omega) bT bo.out (fun s n=>(z.out s n w7 ad.out).ok) bs c3.out (fun s n=>(z.out s n w7 ad.out).pos));clear d1 Q s1 p x7 cf;obtain⟨VV,cs⟩:∃VV,Hid (gK b w m m.length=VV):=⟨_,rfl⟩
      rw[cs.out]at al c a4;have es:Hid (VV.length=(xO w m m.length).length):=by show _=_;rw[<-cs.out];unfold gK;simp
      obtain⟨OM,ap⟩:∃OM,Hid (O.map (·.L)=OM):=⟨_,rfl⟩
      rw[ap.out]at al c;have dT:Hid ((gi w m OM m.length).length=(xO w m m.length).length):=by show _=_;unfold gi;simp
      have dp:Hid ((xO w m m.length).length<=m.length):=by
       show _<=_
       unfold xO;have:=Sc (GI w m) (List.range m.length);rw[Tf]at this;exact this
      have bw:Hid (∀e5∈gi w m OM m.length,e5.length<=10000):=Jo (fun e5 hl=>by
       rw[<-ap.out]at hl;obtain⟨s,n,rfl⟩:=Si.1 hl;exact(z.out s n w7 ad.out).le)
      obtain⟨BV,eT⟩:∃BV,Hid (gi w m OM m.length=BV):=⟨_,rfl⟩
      rw[eT.out]at al c dT bw
      go_upto_region 21 with (go_at_call 177;refine QU al.out ?_;rintro e w8 ⟨hv,G,B,rfl,ac,ds,nv,nb⟩)
      obtain⟨Z,bj⟩:∃Z,Hid (w8.alloc (.cells #[.slice hv.ao VV.length hv.cap,.slice G.ao B.length G.cap] 271)=Z):=⟨_,rfl⟩
      rw[bj.out];have k8:ab [] w8 Z:=by rw[<-bj.out];exact(ab.refl [] _).alloc _
      have B8:Z.heap[w8.heap.size]?=some (.cells #[.slice hv.ao VV.length hv.cap,.slice G.ao B.length G.cap] 271 (0,0)):=by rw[<-bj.out];exact QS _ _
      have E:=nv.kept.trans k8;have J:=hI (ad.out.trans E);have ef:=hI (ep.out.trans E);have br:Hid (B.length=(xO w m m.length).length):=by show _=_;rw[<-dT.out,<-ac,Ri]
      have d6:VV.length<=B.length:=by rw[es.out,br.out];exact QR _
      have cH:B.length<=100000:=by have:=dp.out;rw[br.out];omega
      have bv:Hid (∀s∈B,s.L.length<=10000):=fun s n=>bw.out s.L (by rw[<-ac];exact Si.2 ⟨s,n,rfl⟩)
      have db:=hI (nv.own.srcX.Vb k8);have c7:=(show Hid _ from(nb.own.srcG vw).Vb k8);have d0:=hI (ds.Vb E);have b3:=hI (IQ y l r b d a w _ S m h7.ao h7.cap O h.ao h.cap VV hv.ao hv.cap B G.ao G.cap Z (fz.Vb HD.out J.out) ag.out hr v (qD.Vb bp.out E) (fun j hj=>⟨by have:=(aS.out j hj).1;omega,(aS.out j hj).2.1⟩) bT (cm.Vb bo.out E) (fun s n=>(z.out s n Z J.out).ok) (fun s n=>(z.out s n Z J.out).x) bs d5 c3.out (fun s n=>⟨(z.out s n Z J.out).pos,(z.out s n Z J.out).le⟩) db.out c7.out d0.out d6 cH bv.out);rw[ap.out,ac]at b3;obtain⟨F,c5⟩:∃F,Hid (pP b w l r m OM VV BV=F):=⟨_,rfl⟩
      rw[c5.out]at b3 c;obtain⟨⟨Q,s1,p⟩,-⟩:=I.out Z ef.out;have v0:Z.cell? ⟨w8.heap.size,0,none⟩=some (.slice hv.ao VV.length hv.cap):=by rw[aa B8];rfl
      have v1:Z.cell? ⟨w8.heap.size,1,none⟩=some (.slice G.ao B.length G.cap):=by rw[aa B8];rfl
      have v2:=ae B8;have e4:=hI B8;have ec:=hI (ey.out.Vb E);have cX:=hI ac;clear k8 E nv nb ds B8 al bj ac
      go_upto_region 22 with (go_at_call 178;refine QU b3.out ?_;rintro e w9 ⟨rfl,k9⟩)
      have a5:=hI (J.out.trans k9)
      cases ba:(F==0)
      ·rw[QW ba]at c
       go_wp2;go_ret2;rw[c.out];exact qy rfl ba rfl a5.out
      ·rw[QT (by rw[ba];simp)]at c
       have eX:F=0:=by simpa using ba
       subst eX;have a7:=hI (CN VV hv.ao hv.cap B G.ao G.cap X h2.ao h2.cap w9 (ge.Vb db.out k9) (cm.Vb c7.out k9) (pa.Vb d0.out k9) d6 cH (ge.Vb ec.out.own.srcX k9) (by omega) bv.out);rw[cX.out]at a7;have dz:=N0 (B:=BV) cb a4.out;have B9:=k9.get e4.out (by simp);obtain⟨Y,HY⟩:∃Y,Hid (iU VV BV X=Y):=⟨_,rfl⟩
       rw[HY.out]at a7 c dz;have v3:w9.cell? ⟨w8.heap.size,0,none⟩=some (.slice hv.ao VV.length hv.cap):=by rw[aa B9];rfl
       have v4:w9.cell? ⟨w8.heap.size,1,none⟩=some (.slice G.ao B.length G.cap):=by rw[aa B9];rfl
       have v5:=ae B9;clear k9 v0 v1 v2 Q s1 p
       by_cases ax:32<Y.length
       ·rw[QW ax]at c
        have az:(32:Int)<(Y.length:Int):=by omega
        go_wp2_with (go_at_call 179;refine QU a7.out ?_;rintro e eV ⟨b2,rfl,V⟩;have ai:=hI (a5.out.trans V.kept);clear V);go_ret2;rw[c.out];exact qy rfl rfl rfl ai.out
       ·rw[QT ax]at c
        have az:¬(32:Int)<(Y.length:Int):=by omega
        go_wp2_with (go_at_call 179;refine QU a7.out ?_;rintro e eV ⟨b2,rfl,V⟩;have ai:=hI (a5.out.trans V.kept);have bk:=hI V;clear V);go_ret2;rw[c.out];exact⟨⟨b2.ao,b2.cap,Y⟩,rfl,rfl,fun _=>bk.out.sh dz (by omega),QV (fun q o e=>Q3 a5.out.size (bk.out.far q (KN e))),ai.out⟩
structure ik where
 label:ByteArray
 Vc:Int
 why:Int
 file:ByteArray
 line:Int
 col:Int
def jJ(r:ik):List Value:=[.string r.label,.int .i64 r.Vc,.int .i64 r.why,.string r.file,.int .i64 r.line,.int .i64 r.col]
theorem xf(r:ik):(jJ r).length=6:=rfl
def xt(T:List Tk)(S:List Sm)(a:Nat)(P:List dj)(l:ByteArray)(t:Tk)(M:List (List ByteArray)):ik :=
 if(dS P (P.length-1)==0)=false then⟨l,2,11,t.file,t.line,t.col⟩
 else if oc (cI T S a) (M.getD (P.length-1) [])=false then⟨l,2,12,t.file,t.line,t.col⟩ else⟨l,4,0,⟨#[]⟩,0,0⟩
def po(T:List Tk)(S:List Sm)(a:Nat)(P:List dj)(l:ByteArray)(t:Tk):Nat->Nat->List (List ByteArray)->ik
 | 0,_,M=>xt T S a P l t M
 | n+1,i,M=>if((ui T S a P i M).2==0)=false then⟨l,2,(ui T S a P i M).2,(bO P i).file,(bO P i).line,(bO P i).col⟩ else po T S a P l t n (i+1) (M++[(ui T S a P i M).1])
def mR(T:List Tk)(S:List Sm)(a:Nat)(p:jS)(t:Tk):ik :=
 if(p.why==0)=false then⟨bG T (au S a),2,p.why,p.file,p.line,p.col⟩
 else if 0<=ic p.st then⟨bG T (au S a),3,p.why,(bO p.st (ic p.st).toNat).file,(bO p.st (ic p.st).toNat).line,(bO p.st (ic p.st).toNat).col⟩
 else po T S a p.st (bG T (au S a)) t p.st.length 0 []
theorem ob{r q p:Value}(h:f.heap[n]?=some (.cells #[N,g,z6,r,q,p] 38 (0,0)))(a b c d e i:Value) :
  (f.setCell ⟨n,0,none⟩ a).cell? ⟨n,0,none⟩=some a/\((f.setCell ⟨n,0,none⟩ a).setCell ⟨n,1,none⟩ b).cell? ⟨n,1,none⟩=some b/\(((f.setCell ⟨n,0,none⟩ a).setCell ⟨n,1,none⟩ b).setCell ⟨n,2,none⟩ c).cell? ⟨n,2,none⟩=some c/\((((f.setCell ⟨n,0,none⟩ a).setCell ⟨n,1,none⟩ b).setCell ⟨n,2,none⟩ c).setCell ⟨n,3,none⟩ d).cell? ⟨n,3,none⟩=some d /\
  (((((f.setCell ⟨n,0,none⟩ a).setCell ⟨n,1,none⟩ b).setCell ⟨n,2,none⟩ c).setCell ⟨n,3,none⟩ d).setCell ⟨n,4,none⟩ e).cell? ⟨n,4,none⟩=some e/\((((((f.setCell ⟨n,0,none⟩ a).setCell ⟨n,1,none⟩ b).setCell ⟨n,2,none⟩ c).setCell ⟨n,3,none⟩ d).setCell ⟨n,4,none⟩ e).setCell ⟨n,5,none⟩ i).cell? ⟨n,5,none⟩=some i:=by
 have j:=ah h 0 a;have l:=ah j 1 b;have m:=ah l 2 c;have o:=ah m 3 d;have k:=ah o 4 e;have s:=ah k 5 i;exact⟨by rw[aa j];rfl,by rw[aa l];rfl,by rw[aa m];rfl,by rw[aa o];rfl,by rw[aa k];rfl,by rw[aa s];rfl⟩
theorem dZ{r:ik}(h:f.heap[n]?=some (.cells (jJ r).toArray 38 (0,0))) :
  (f.cell? ⟨n,0,none⟩=some (.string r.label)/\f.cell? ⟨n,1,none⟩=some (.int .i64 r.Vc)/\f.cell? ⟨n,2,none⟩=some (.int .i64 r.why)/\f.cell? ⟨n,3,none⟩=some (.string r.file)/\f.cell? ⟨n,4,none⟩=some (.int .i64 r.line)/\f.cell? ⟨n,5,none⟩=some (.int .i64 r.col)) /\
  (f.frozen? ⟨n,0,none⟩=false/\f.frozen? ⟨n,1,none⟩=false/\f.frozen? ⟨n,2,none⟩=false/\f.frozen? ⟨n,3,none⟩=false/\f.frozen? ⟨n,4,none⟩=false/\f.frozen? ⟨n,5,none⟩=false)/\n<f.heap.size:=by
 refine⟨⟨?_,?_,?_,?_,?_,?_⟩,⟨am h 0,am h 1,am h 2,am h 3,am h 4,am h 5⟩,ae h⟩
 all_goals (rw[aa h];rfl)
def N8:ik:=⟨⟨#[]⟩,0,0,⟨#[]⟩,0,0⟩
def Ks(w:World)(r:ik)(e:Ending)(w':World):Prop:=e=.returned (.agg (jJ r).toArray)/\ab [] w w'
structure Kq(T:List Tk)(S:List Sm)(a:Nat)(p:jS):Prop where
 le:p.st.length<=100000000
 nd:M0 p.st
 st:p.why=0->0<p.st.length/\∀i,i<p.st.length->(bO p.st i).ref≠-1->Kv T S a p.st i
structure A8(w wr:World)(p:jS)(hp:Hd)(r:ik):Prop where
 e:wr.heap[w.heap.size]?=some (.cells #[.slice hp.ao p.st.length hp.cap,.int .i64 p.why,.string p.file,.int .i64 p.line,.int .i64 p.col] 122 (0,0))
 z:wr.heap[w.heap.size+1]?=some (.cells (jJ N8).toArray 38 (0,0))
 r:wr.heap[w.heap.size+2]?=some (.cells (jJ r).toArray 38 (0,0))
 kept:ab [] w wr
theorem A8.Vb{b:World}{r:ik}(a:A8 f x o T r)(k:ab [] x b):A8 f b o T r:=⟨k.get a.e (by simp),k.get a.z (by simp),k.get a.r (by simp),a.kept.trans k⟩
theorem A8.set{r r':ik}(a:A8 f x o T r)(i:Nat)(v:Value)(h:(jJ r).set i v=jJ r'):A8 f (x.setCell ⟨f.heap.size+2,i,none⟩ v) o T r':=by
 have k:ab [f.heap.size+2] x (x.setCell ⟨f.heap.size+2,i,none⟩ v):=(ab.refl _ _).setCell (Q1 (by simp)) _;refine⟨k.get a.e (by simp),k.get a.z (by simp),?_,a.kept.setCell (QV (by simp)) _⟩;rw[ah a.r,<-h];simp
theorem A8.prf{r:ik}(a:A8 f x o T r):x.cell? ⟨f.heap.size,0,none⟩=some (.slice T.ao o.st.length T.cap)/\x.cell? ⟨f.heap.size,1,none⟩=some (.int .i64 o.why)/\x.cell? ⟨f.heap.size,2,none⟩=some (.string o.file)/\x.cell? ⟨f.heap.size,3,none⟩=some (.int .i64 o.line)/\x.cell? ⟨f.heap.size,4,none⟩=some (.int .i64 o.col)/\f.heap.size<x.heap.size :=
 ⟨by rw[aa a.e];rfl,by rw[aa a.e];rfl,by rw[aa a.e];rfl,by rw[aa a.e];rfl,by rw[aa a.e];rfl,ae a.e⟩
theorem Qi(h:oo f v):∃q o,v.ao=some ⟨q,o,none⟩/\q<f.heap.size:=by
 obtain⟨g,e,a,-⟩:=h.x 0 _ (mm v.L 0 h.pos);exact⟨g,0,e,a⟩
theorem Ms(g:bt f x T z7)(a:oo f v)(n:∀q o,v.ao=some ⟨q,o,none⟩->T.blk≠some q):oo x v:=by
 refine⟨⟨fun k h d=>?_,a.ok.nil,a.ok.le⟩,fun k h d=>?_,a.pos,a.le⟩
 ·obtain⟨q,o,e,b,c⟩:=a.ok.src k h d
  exact⟨q,o,e,QX b g.kept.size,by rw[Q6 (g.kept.block q b (fun i=>n q o e (aN i)))];exact c⟩
 ·obtain⟨q,e,b,c⟩:=a.x k h d
  exact⟨q,e,QX b g.kept.size,by rw[Q6 (g.kept.block q b (fun i=>n q 0 e (aN i)))];exact c⟩
theorem Ob(g:bt f x T z7)(a:∀v∈I,oo f v)(n:∀v∈I,∀q o,v.ao=some ⟨q,o,none⟩->T.blk≠some q)(b:oo f v)(m:∀q o,v.ao=some ⟨q,o,none⟩->T.blk≠some q):∀t∈I++[v],oo x t:=fun t c=>by
 rcases Rr.1 c with c | c
 ·exact Ms g (a t c) (n t c)
 ·rw[Q9.1 c];exact Ms g b m
theorem M8(g:bt f x T z7)(a:∀v∈I,oo f v)(n:∀v∈I,∀q o,v.ao=some ⟨q,o,none⟩->T.blk≠some q)(b:oo f v)(m:∀q o,v.ao=some ⟨q,o,none⟩->T.blk≠some q):∀t∈I++[v],∀q o,t.ao=some ⟨q,o,none⟩->z7.blk≠some q:=fun t c q o e i=>by
 have d:oo f t/\T.blk≠some q:=by
  rcases Rr.1 c with c | c
  ·exact⟨a t c,n t c q o e⟩
  ·rw[Q9.1 c]at e ⊢;exact⟨b,m q o e⟩
 rcases g.blk with h | ⟨r,h,k⟩
 ·exact d.2 (by rw[<-h];exact i)
 ·rw[h]at i;cases i
  obtain⟨l,s,j,p⟩:=Qi d.1;rw[e]at j
  cases j
  omega
theorem AL(p:jS)(R:Hd)(c:World)(hD:fz c y b d a w k S)(ok:nK b w l)(hB:Kk b w l)(ck:OL b w l)(hn:l<w.length)(hE:cU b (au w l).h)(ds:(au w l).a<b.length)(cF:(au w l).z=H+1)(d2:H<b.length)(hP:cm c R.ao 6 kV p.st)(a0:Kq b w l p) :
  Calls prog 89 #[.pointer (some ⟨y,0,none⟩),.int .i64 l,.agg #[.slice R.ao p.st.length R.cap,.int .i64 p.why,.string p.file,.int .i64 p.line,.int .i64 p.col]] c fun e w'=>Ks c (mR b w l p (b.getD H jf)) e w':=by
 obtain⟨W,HW⟩:∃W,Hid (((c.alloc (.cells #[.slice R.ao p.st.length R.cap,.int .i64 p.why,.string p.file,.int .i64 p.line,.int .i64 p.col] 122)).alloc (.cells #[.string ⟨#[]⟩,.int .i64 0,.int .i64 0,.string ⟨#[]⟩,.int .i64 0,.int .i64 0] 38)).alloc (.cells #[.string ⟨#[]⟩,.int .i64 2,.int .i64 p.why,.string p.file,.int .i64 p.line,.int .i64 p.col] 38)=W):=⟨_,rfl⟩
 have V0:A8 c W p R ⟨⟨#[]⟩,2,p.why,p.file,p.line,p.col⟩:=by
  obtain⟨W1,a5⟩:∃W1,W1=c.alloc (.cells #[.slice R.ao p.st.length R.cap,.int .i64 p.why,.string p.file,.int .i64 p.line,.int .i64 p.col] 122):=⟨_,rfl⟩
  obtain⟨W2,a6⟩:∃W2,W2=W1.alloc (.cells #[.string ⟨#[]⟩,.int .i64 0,.int .i64 0,.string ⟨#[]⟩,.int .i64 0,.int .i64 0] 38):=⟨_,rfl⟩
  have O:W1.heap.size=c.heap.size+1:=by rw[a5];simp
  have T:W2.heap.size=c.heap.size+2:=by rw[a6];simp[O]
  have k0:ab [] c W1:=by rw[a5];exact(ab.refl [] _).alloc _
  have k1:ab [] W1 W2:=by rw[a6];exact(ab.refl [] _).alloc _
  have I:W1.heap[c.heap.size]?=some (.cells #[.slice R.ao p.st.length R.cap,.int .i64 p.why,.string p.file,.int .i64 p.line,.int .i64 p.col] 122 (0,0)):=by rw[a5];exact QS _ _
  have M:W2.heap[c.heap.size+1]?=some (.cells (jJ N8).toArray 38 (0,0)):=by rw[a6,<-O];exact QS _ _
  rw[<-HW.out,<-a5,<-a6];have k2:ab [] W2 (W2.alloc (.cells #[.string ⟨#[]⟩,.int .i64 2,.int .i64 p.why,.string p.file,.int .i64 p.line,.int .i64 p.col] 38)):=(ab.refl [] _).alloc _;exact⟨k2.get (k1.get I (by simp)) (by simp),k2.get M (by simp),by rw[<-T];exact QS _ _,(k0.trans k1).trans k2⟩
 have a4:=hI V0;have HD:=hI hD;have cH:=hI ok;have HP:=hI hP;have ec:=ok.sm;have eh:=ok.tm;have d3:=hI hB;have c7:=hI ck;have df:=hI hE;have aT:=a0.le;have bp:=hI a0.nd;have bl:=hI a0.st
 have b1:Hid (Calls prog 87 #[.pointer (some ⟨y,0,none⟩),.int .i64 l] W fun e w'=>e=.returned (.string (bG b (au w l)))/\ab [] W w'):=by
  have:=nQ y l b d a w k S W (hD.Vb V0.kept) hn (by rw[bM w l hn];exact ds);rw[bM w l hn]at this;exact this
 have ad:Hid (mR b w l p (b.getD H jf)=if(p.why==0)=false then⟨bG b (au w l),2,p.why,p.file,p.line,p.col⟩
  else if 0<=ic p.st then⟨bG b (au w l),3,p.why,(bO p.st (ic p.st).toNat).file,(bO p.st (ic p.st).toNat).line,(bO p.st (ic p.st).toNat).col⟩
  else po b w l p.st (bG b (au w l)) (b.getD H jf) p.st.length 0 []):=rfl
 have cp:Hid (∀F:World,ab [] c F->∃gT gs,d=some ⟨gT,0,none⟩/\k=some ⟨gs,0,none⟩/\gT<F.heap.size/\gs<F.heap.size/\y<F.heap.size/\F.cell? ⟨y,0,none⟩=some (.slice d b.length a)/\F.cell? ⟨y,1,none⟩=some (.slice k w.length S)/\F.cell? ⟨gs,l*4+1,none⟩=some (.int .i64 ((H:Int)+1))/\F.cell? ⟨gT,H*5+2,none⟩=some (.string (b.getD H jf).file)/\F.cell? ⟨gT,H*5+3,none⟩=some (.int .i64 (b.getD H jf).line)/\F.cell? ⟨gT,H*5+4,none⟩=some (.int .i64 (b.getD H jf).col)):=fun F kx=>by
  have hd:=fz.Vb HD.out kx;obtain⟨c0,c1,hb⟩:=hd.cells;obtain⟨gs,K,bk,-,q1,-,-⟩:=hd.s.2 l w[l] (QP hn);rw[bM w l hn,cF,show((H+1:Nat):Int)=(H:Int)+1 by omega]at q1;obtain⟨gT,J,bj,-,-,t2,t3,t4⟩:=hd.t.2 H _ (iw b H d2);exact⟨gT,gs,J,K,bj,bk,hb,c0,c1,q1,t2,t3,t4⟩
 have bs:Hid (∀F,ab [] c F->Calls prog 130 #[.agg #[.slice R.ao p.st.length R.cap,.int .i64 p.why,.string p.file,.int .i64 p.line,.int .i64 p.col]] F fun e w'=>e=.returned (.int .i64 (ic p.st))/\ab [] F w'):=fun F kx=>Is p.st R.ao R.cap p.why p.file p.line p.col F (hP.Vb kx) aT
 have cy:=Ei p.st;obtain⟨iL,cL,cf,b2,cb⟩:=Re Ej;clear hD ok hB ck hE hP a0 V0;obtain⟨m,Hl⟩:∃m,Hid (bG b (au w l)=m):=⟨_,rfl⟩
 rw[Hl.out]at b1 ad;obtain⟨V,d0⟩:∃V,Hid (mR b w l p (b.getD H jf)=V):=⟨_,rfl⟩
 rw[d0.out]at ad ⊢;obtain⟨P,bz,pf,pl,pc⟩:=p;simp only at ad bs cy aT bp bl HP;obtain⟨I,M,n,K,J,e5⟩:=a4.out.prf;obtain⟨⟨B,u,E,D,G,C⟩,⟨f0,f1,f2,f3,f4,f5⟩,j⟩:=dZ a4.out.r;obtain⟨⟨z0,O,T,z3,z4,z5⟩,⟨y0,y1,y2,y3,Z,y5⟩,f⟩:=dZ a4.out.z;simp only at B u E D G C;go_enter func89,ntmps89
 go_upto_region 2 with fail
 rw[HW.out]
 go_upto_region 3 with (go_at_call 87;refine QU b1.out ?_;rintro e w1 ⟨rfl,k1⟩;have V1:=a4.out.Vb k1;obtain⟨⟨u0,-⟩,⟨u1,-⟩,u2⟩:=dZ V1.r)
 have ag:Hid (A8 c (w1.setCell ⟨c.heap.size+2,0,none⟩ (.string m)) ⟨P,bz,pf,pl,pc⟩ R ⟨m,2,bz,pf,pl,pc⟩):=V1.set 0 (.string m) rfl;obtain⟨X2,bT⟩:∃X2,Hid (w1.setCell ⟨c.heap.size+2,0,none⟩ (.string m)=X2):=⟨_,rfl⟩
 rw[bT.out]at ag ⊢;clear V1 u0 u1 u2 k1 bT;clear I M n K J e5 B u E D G C f0 f1 f2 f3 f4 f5 j z0 O T z3 z4 z5 y0 y1 y2 y3 Z y5 f;obtain⟨I,M,n,K,J,e5⟩:=ag.out.prf;obtain⟨⟨B,u,E,D,G,C⟩,⟨f0,f1,f2,f3,f4,f5⟩,j⟩:=dZ ag.out.r;obtain⟨⟨z0,O,T,z3,z4,z5⟩,⟨y0,y1,y2,y3,Z,y5⟩,f⟩:=dZ ag.out.z;simp only at B u E D G C;simp only at I M n K J
 cases hy:(bz==0)
 ·rw[hy,QW rfl]at ad
  have HX:Hid (V=⟨m,2,bz,pf,pl,pc⟩):=ad.out;go_wp2;obtain⟨x0,x1,x2,x3,x4,x5⟩:=ob ag.out.z (.string m) (.int .i64 2) (.int .i64 bz) (.string pf) (.int .i64 pl) (.int .i64 pc);exact QY (v:=.agg #[.string m,.int .i64 2,.int .i64 bz,.string pf,.int .i64 pl,.int .i64 pc]) (by simp[results,results89,go_sem,x0,x1,x2,x3,x4,x5]) rfl ⟨by rw[HX.out];rfl,(((((ag.out.kept.setCell (QV (by simp)) _).setCell (QV (by simp)) _).setCell (QV (by simp)) _).setCell (QV (by simp)) _).setCell (QV (by simp)) _).setCell (QV (by simp)) _⟩
 ·rw[hy,QT (by simp)]at ad
  have c9:bz=0:=by simpa using hy
  subst c9;have cu:=hI (bs.out X2 ag.out.kept)
  go_upto_region 6 with (go_at_call 130;refine QU cu.out ?_;rintro e w3 ⟨rfl,k3⟩)
  have ap:=hI (ag.out.Vb k3);clear k3;clear I M n K J e5 B u E D G C f0 f1 f2 f3 f4 f5 j z0 O T z3 z4 z5 y0 y1 y2 y3 Z y5 f;obtain⟨I,M,n,K,J,e5⟩:=ap.out.prf;obtain⟨⟨B,u,E,D,G,C⟩,⟨f0,f1,f2,f3,f4,f5⟩,j⟩:=dZ ap.out.r;obtain⟨⟨z0,O,T,z3,z4,z5⟩,⟨y0,y1,y2,y3,Z,y5⟩,f⟩:=dZ ap.out.z;simp only at B u E D G C;simp only at I M n K J
  rcases cy with ⟨hh,cq⟩ | ⟨al,hk,hh⟩
  ·rw[hh,QT (by omega)]at ad
   rw[hh];obtain⟨d9,cl⟩:=bl.out (by trivial);have d4:Hid (∀i,i<P.length->Kv b w l P i):=fun i hi=>cl i hi (cq i hi)
   have cE:Hid (gw w3 w3 ⟨none,0⟩ (lA [])):=⟨QZ _ _ _ _,(by intro al hk;cases hk),ab.refl _ _⟩;have a7:Hid (po b w l P m (b.getD H jf) (P.length-0) 0 (([]:List Sl).map (·.L))=V):=ad.out.symm;obtain⟨tz,c8⟩:∃tz,Hid (b.getD H jf=tz):=⟨_,rfl⟩
   rw[c8.out]at cp a7;clear cl cq hh ad bl bs cu;go_wp2;clear I M n K J e5 B u E D G C f0 f1 f2 f3 f4 f5 j z0 O T z3 z4 z5 y0 y1 y2 y3 Z y5 f
   go_loopg [9,10] P.length (fun g o iv wr=>∃(i:Nat) (h:Hd) (A:List Sl),i<=P.length/\g=P.length-i/\o=.slice h.ao A.length h.cap/\iv=.int .i64 i/\Hid (A.length=i)/\Hid (∀s∈A,oo wr s)/\Hid (∀s∈A,∀q o,s.ao=some ⟨q,o,none⟩->h.blk≠some q)/\Hid (po b w l P m tz (P.length-i) i (A.map (·.L))=V)/\Hid (gw w3 wr h (lA A)))
   case atStart=>exact⟨0,⟨none,0⟩,[],by omega,rfl,rfl,rfl,rfl,(fun s hs=>by cases hs),(fun s hs=>by cases hs),a7,cE⟩
   case round =>
    obtain⟨i,h,A,hi,hg,rfl,rfl,aS,bo,bf,HG,ar⟩:=hrel;have an:=hI (ap.out.Vb ar.out.kept);have a2:=hI an.out.kept;obtain⟨I,M,n,K,J,e5⟩:=an.out.prf;obtain⟨⟨B,u,E,D,G,C⟩,⟨f0,f1,f2,f3,f4,f5⟩,j⟩:=dZ an.out.r;obtain⟨⟨z0,O,T,z3,z4,z5⟩,⟨y0,y1,y2,y3,Z,y5⟩,f⟩:=dZ an.out.z;simp only at B u E D G C;simp only at I M n K J
    by_cases a1:i<P.length
    ·have eg:(i:Int)<(P.length:Int):=by omega
     have bd:=hI (JL y l i b d a w k S P R.ao R.cap 0 pf pl pc A h.ao h.cap wr (fz.Vb HD.out a2.out) cH.out d3.out c7.out hn (cm.Vb HP.out a2.out) aT bp.out a1 (d4.out i a1) (ar.out.own.srcG vw) bo.out aS.out);obtain⟨cA,hd⟩:∃cA,P.length-i=cA+1:=⟨P.length-i-1,by omega⟩
     have af:Hid (po b w l P m tz (cA+1) i (A.map (·.L))=V):=by rw[<-hd];exact HG
     rw[po]at af;have dk:Hid (P.length-(i+1)=cA):=by show _=_;omega
     clear hd HG;obtain⟨SR,dz⟩:∃SR,Hid (ui b w l P i (A.map (·.L))=SR):=⟨_,rfl⟩
     rw[dz.out]at bd af;obtain⟨sE,sW⟩:=SR;simp only at af
     go_upto_region 15 with (go_at_call 131;refine QU bd.out ?_;rintro e w4 ⟨s,rfl,b4,bc,b0,k4⟩)
     have U:=hI (an.out.Vb k4);have b3:=hI (ar.out.Vb k4);have ba:Hid (∀s∈A,oo w4 s):=fun s hs=>(bo.out s hs).Vb k4
     have cj:Hid (s.L=sE):=b4;have cP:Hid ((sW==0)=true->oo w4 s):=bc
     have cx:Hid (∀q o,s.ao=some ⟨q,o,none⟩->h.blk≠some q):=fun q o e hb=>by
      rcases b0 with hm | hf
      ·exact bf.out s hm q o e hb
      ·have:=hf q o e
       have:=ar.out.own.lt hb;omega
     clear b4 bc b0 k4 bd;clear I M n K J e5 B u E D G C f0 f1 f2 f3 f4 f5 j z0 O T z3 z4 z5 y0 y1 y2 y3 Z y5 f;obtain⟨I,M,n,K,J,e5⟩:=U.out.prf;obtain⟨⟨B,u,E,D,G,C⟩,⟨f0,f1,f2,f3,f4,f5⟩,j⟩:=dZ U.out.r;obtain⟨⟨z0,O,T,z3,z4,z5⟩,⟨y0,y1,y2,y3,Z,y5⟩,f⟩:=dZ U.out.z;simp only at B u E D G C;simp only at I M n K J
     cases hw:(sW==0)
     ·rw[hw,QW rfl]at af
      have HX:Hid (V=⟨m,2,sW,(bO P i).file,(bO P i).line,(bO P i).col⟩):=af.out.symm;obtain⟨gP,az,ax,-,-,-,q3,q4,q5⟩:=cm.step (cm.Vb HP.out U.out.kept) i a1
      have HQ:Hid (∀F:World,ab [] c F->gP<F.heap.size/\F.cell? ⟨gP,i*6+3,none⟩=some (.string (bO P i).file)/\F.cell? ⟨gP,i*6+4,none⟩=some (.int .i64 (bO P i).line)/\F.cell? ⟨gP,i*6+5,none⟩=some (.int .i64 (bO P i).col)):=fun F kx=>by
       obtain⟨g2,n,h2,-,-,-,c3,c4,c5⟩:=cm.step (cm.Vb HP.out kx) i a1;rw[az]at n
       cases n
       exact⟨h2,c3,c4,c5⟩
      generalize (bO P i).file=sf at *;generalize (bO P i).line=sl at *;generalize (bO P i).col=sc at *;clear ax q3 q4 q5
      go_upto_region 17 with fail
      have N:Hid (A8 c (w4.setCell ⟨c.heap.size+2,2,none⟩ (.int .i64 sW)) ⟨P,0,pf,pl,pc⟩ R ⟨m,2,sW,pf,pl,pc⟩):=U.out.set 2 (.int .i64 sW) rfl;obtain⟨X4,bv⟩:∃X4,Hid (w4.setCell ⟨c.heap.size+2,2,none⟩ (.int .i64 sW)=X4):=⟨_,rfl⟩
      rw[bv.out]at N ⊢;clear I M n K J e5 B u E D G C f0 f1 f2 f3 f4 f5 j z0 O T z3 z4 z5 y0 y1 y2 y3 Z y5 f;obtain⟨I,M,n,K,J,e5⟩:=N.out.prf;obtain⟨⟨B,u,E,D,G,C⟩,⟨f0,f1,f2,f3,f4,f5⟩,j⟩:=dZ N.out.r;obtain⟨⟨z0,O,T,z3,z4,z5⟩,⟨y0,y1,y2,y3,Z,y5⟩,f⟩:=dZ N.out.z;simp only at B u E D G C;simp only at I M n K J;obtain⟨ax,q3,q4,q5⟩:=HQ.out X4 N.out.kept;rw[az]at I
      go_upto_region 18 with fail
      have Y:Hid (A8 c (((X4.setCell ⟨c.heap.size+2,3,none⟩ (.string sf)).setCell ⟨c.heap.size+2,4,none⟩ (.int .i64 sl)).setCell ⟨c.heap.size+2,5,none⟩ (.int .i64 sc)) ⟨P,0,pf,pl,pc⟩ R ⟨m,2,sW,sf,sl,sc⟩):=((N.out.set (r':=⟨m,2,sW,sf,pl,pc⟩) 3 (.string sf) rfl).set (r':=⟨m,2,sW,sf,sl,pc⟩) 4 (.int .i64 sl) rfl).set 5 (.int .i64 sc) rfl;obtain⟨X5,br⟩:∃X5,Hid (((X4.setCell ⟨c.heap.size+2,3,none⟩ (.string sf)).setCell ⟨c.heap.size+2,4,none⟩ (.int .i64 sl)).setCell ⟨c.heap.size+2,5,none⟩ (.int .i64 sc)=X5):=⟨_,rfl⟩
      rw[br.out]at Y ⊢;clear I M n K J e5 B u E D G C f0 f1 f2 f3 f4 f5 j z0 O T z3 z4 z5 y0 y1 y2 y3 Z y5 f;obtain⟨I,M,n,K,J,e5⟩:=Y.out.prf;obtain⟨⟨B,u,E,D,G,C⟩,⟨f0,f1,f2,f3,f4,f5⟩,j⟩:=dZ Y.out.r;obtain⟨⟨z0,O,T,z3,z4,z5⟩,⟨y0,y1,y2,y3,Z,y5⟩,f⟩:=dZ Y.out.z;simp only at B u E D G C;go_wp2;obtain⟨x0,x1,x2,x3,x4,x5⟩:=ob Y.out.z (.string m) (.int .i64 2) (.int .i64 sW) (.string sf) (.int .i64 sl) (.int .i64 sc);exact QY (v:=.agg #[.string m,.int .i64 2,.int .i64 sW,.string sf,.int .i64 sl,.int .i64 sc]) (by simp[results,results89,go_sem,x0,x1,x2,x3,x4,x5]) rfl ⟨by rw[HX.out];rfl,(((((Y.out.kept.setCell (QV (by simp)) _).setCell (QV (by simp)) _).setCell (QV (by simp)) _).setCell (QV (by simp)) _).setCell (QV (by simp)) _).setCell (QV (by simp)) _⟩
     ·rw[hw,QT (by simp)]at af
      have db:sW=0:=by simpa using hw
      subst db;have ca:=hI (cP.out rfl);rw[<-cj.out]at af;have d5:Hid (([.slice s.ao sE.length s.cap]:List Value)=Ff s):=by show _=_;unfold Ff;rw[cj.out]
      have dv:=b3.out.own;have dp:Hid ((lA A).n<=900000000):=by show A.length<=_;rw[aS.out];omega
      go_wp2_with (at_builtin;refine bN _ rfl (.tmp 71) (.tmp 73) 218 rfl iL (.slice none 0 0) 24 h (lA A) [.slice s.ao sE.length s.cap] underlying218 cL cf b2 cb rfl Rc rfl dv dp.out (by omega) rfl rfl (by simp[Value.oneCell']) ?_;intro h7 w7 bx a3;rw[d5.out,qw]at bx;have cR:=hI (b3.out.Vl a3 bx);have b5:=hI (Ob a3 ba.out bf.out ca.out cx.out);have cs:=hI (M8 a3 ba.out bf.out ca.out cx.out);clear bx a3)
      go_roundg (P.length-(i+1))
      case measure=>omega
      case rel=>exact⟨i+1,h7,A++[s],by omega,rfl,by simp[lA,kU],by go_num,by show _=_;rw[Q0,aS.out];rfl,b5,cs,by rw[dk.out,Ry];exact af,cR⟩
    ·obtain⟨q,hq⟩:∃q,P.length=q+1:=⟨P.length-1,by omega⟩
     have d6:¬(i:Int)<(P.length:Int):=by omega
     have ei:IntKind.i64.wrap ((P.length:Int)-1)=(q:Int):=by rw[R9];omega
     have af:Hid (xt b w l P m tz (A.map (·.L))=V):=by have:=HG.out;rw[show P.length-i=0 by omega,po]at this;exact this
     have ac:Hid (xt b w l P m tz (A.map (·.L))=if(dS P q==0)=false then⟨m,2,11,tz.file,tz.line,tz.col⟩ else if oc (cI b w l) (fQ A q).L=false then⟨m,2,12,tz.file,tz.line,tz.col⟩ else⟨m,4,0,⟨#[]⟩,0,0⟩):=by show _=_;unfold xt;rw[show P.length-1=q by omega,wF A q (by rw[aS.out];omega)]
     have ch:q<A.length:=by rw[aS.out];omega
     have d7:(q:Int)<(A.length:Int):=by omega
     have dt:q<P.length:=by omega
     have ef:(0:Int)<=(q:Int):=by omega
     clear hq HG;rw[af.out]at ac;have b6:=hI (tJ P R.ao R.cap 0 pf pl pc aT bp.out (q+1) q wr (by omega) dt (cm.Vb HP.out a2.out));generalize dS P q=bg at *
     have cc:Hid (∀F,ab [] c F->Calls prog 72 #[.pointer (some ⟨y,0,none⟩),.int .i64 (l:Int)] F fun e w'=>∃h',e=.returned (.slice h'.ao (cI b w l).length h'.cap)/\vj F w' h' (cI b w l)):=fun F kx=>by
      have:=kD y l b d a w k S F (fz.Vb HD.out kx) hn (by omega) (by rw[bM w l hn];exact df.out);rw[bM w l hn]at this;exact this
     have c6:(cI b w l).length<=b.length:=kg b _;obtain⟨X,cB⟩:∃X,Hid (cI b w l=X):=⟨_,rfl⟩
     rw[cB.out]at cc c6 ac
     go_upto_region 22 with (go_at_call 132;refine QU b6.out ?_;rintro e w4 ⟨rfl,k4⟩)
     have ct:=hI (cc.out w4 (a2.out.trans k4))
     go_upto_region 23 with (go_at_call 72;refine QU ct.out ?_;rintro e w5 ⟨h5,rfl,x5⟩)
     have k5:=k4.trans x5.kept;have N:=hI (an.out.Vb k5);obtain⟨gA,c2,d1,cV⟩:=cm.sl ((ar.out.Vb k5).own.srcG vw) q ch;have dT:=(show Hid _ from(bo.out (fQ A q) (jK A q ch)).Vb k5);have be:=hI (C0 X (fQ A q).L h5.ao (fQ A q).ao h5.cap (fQ A q).cap w5 x5.own.srcX dT.out.x (by omega));generalize fQ A q=s at *;obtain⟨sm,dl⟩:∃sm,Hid (oc X s.L=sm):=⟨_,rfl⟩
     rw[dl.out]at be ac;rw[c2];clear k4 k5 x5 ct b6;clear I M n K J e5 B u E D G C f0 f1 f2 f3 f4 f5 j z0 O T z3 z4 z5 y0 y1 y2 y3 Z y5 f
     go_upto_region 24 with (go_at_call 133;refine QU be.out ?_;rintro e w6 ⟨rfl,k6⟩)
     have Y:=hI (N.out.Vb k6);clear k6 cV d1 be;obtain⟨I,M,n,K,J,e5⟩:=Y.out.prf;obtain⟨⟨B,u,E,D,G,C⟩,⟨f0,f1,f2,f3,f4,f5⟩,j⟩:=dZ Y.out.r;obtain⟨⟨z0,O,T,z3,z4,z5⟩,⟨y0,y1,y2,y3,Z,y5⟩,f⟩:=dZ Y.out.z;simp only at B u E D G C;simp only at I M n K J;obtain⟨gT,gs,rfl,rfl,bj,bk,cX,c0,c1,q1,t2,t3,t4⟩:=cp.out w6 Y.out.kept;have ej:(l:Int)<(w.length:Int):=by omega
     have d8:(H:Int)<(b.length:Int):=by omega
     obtain⟨ts,tr,tf,tl,tc⟩:=tz;simp only at t2 t3 t4 ac;have ai:Hid (A8 c (((w6.setCell ⟨c.heap.size+2,3,none⟩ (.string tf)).setCell ⟨c.heap.size+2,4,none⟩ (.int .i64 tl)).setCell ⟨c.heap.size+2,5,none⟩ (.int .i64 tc)).drew ⟨P,0,pf,pl,pc⟩ R ⟨m,2,0,tf,tl,tc⟩):=(((Y.out.set (r':=⟨m,2,0,tf,pl,pc⟩) 3 (.string tf) rfl).set (r':=⟨m,2,0,tf,tl,pc⟩) 4 (.int .i64 tl) rfl).set (r':=⟨m,2,0,tf,tl,tc⟩) 5 (.int .i64 tc) rfl).Vb (ab.refl [] _).drew
     go_region
     obtain⟨X7,cz⟩:∃X7,Hid ((((w6.setCell ⟨c.heap.size+2,3,none⟩ (.string tf)).setCell ⟨c.heap.size+2,4,none⟩ (.int .i64 tl)).setCell ⟨c.heap.size+2,5,none⟩ (.int .i64 tc)).drew=X7):=⟨_,rfl⟩
     rw[cz.out]at ai ⊢;clear I M n K J e5 B u E D G C f0 f1 f2 f3 f4 f5 j z0 O T z3 z4 z5 y0 y1 y2 y3 Z y5 f;clear bj bk cX c0 c1 q1 t2 t3 t4 cz;obtain⟨I,M,n,K,J,e5⟩:=ai.out.prf;obtain⟨⟨B,u,E,D,G,C⟩,⟨f0,f1,f2,f3,f4,f5⟩,j⟩:=dZ ai.out.r;obtain⟨⟨z0,O,T,z3,z4,z5⟩,⟨y0,y1,y2,y3,Z,y5⟩,f⟩:=dZ ai.out.z;simp only at B u E D G C;simp only at I M n K J
     cases co:(bg==0)
     ·rw[co,QW rfl]at ac
      have HX:Hid (V=⟨m,2,11,tf,tl,tc⟩):=ac.out
      go_upto_region 27 with fail
      have Q:Hid (A8 c (X7.setCell ⟨c.heap.size+2,2,none⟩ (.int .i64 11)) ⟨P,0,pf,pl,pc⟩ R ⟨m,2,11,tf,tl,tc⟩):=ai.out.set 2 (.int .i64 11) rfl;obtain⟨X8,bw⟩:∃X8,Hid (X7.setCell ⟨c.heap.size+2,2,none⟩ (.int .i64 11)=X8):=⟨_,rfl⟩
      rw[bw.out]at Q ⊢;clear I M n K J e5 B u E D G C f0 f1 f2 f3 f4 f5 j z0 O T z3 z4 z5 y0 y1 y2 y3 Z y5 f;obtain⟨I,M,n,K,J,e5⟩:=Q.out.prf;obtain⟨⟨B,u,E,D,G,C⟩,⟨f0,f1,f2,f3,f4,f5⟩,j⟩:=dZ Q.out.r;obtain⟨⟨z0,O,T,z3,z4,z5⟩,⟨y0,y1,y2,y3,Z,y5⟩,f⟩:=dZ Q.out.z;simp only at B u E D G C;go_wp2;obtain⟨x0,x1,x2,x3,x4,x5⟩:=ob Q.out.z (.string m) (.int .i64 2) (.int .i64 11) (.string tf) (.int .i64 tl) (.int .i64 tc);exact QY (v:=.agg #[.string m,.int .i64 2,.int .i64 11,.string tf,.int .i64 tl,.int .i64 tc]) (by simp[results,results89,go_sem,x0,x1,x2,x3,x4,x5]) rfl ⟨by rw[HX.out];rfl,(((((Q.out.kept.setCell (QV (by simp)) _).setCell (QV (by simp)) _).setCell (QV (by simp)) _).setCell (QV (by simp)) _).setCell (QV (by simp)) _).setCell (QV (by simp)) _⟩
     ·rw[co,QT (by simp)]at ac
      cases sm
      ·rw[QW rfl]at ac
       have HX:Hid (V=⟨m,2,12,tf,tl,tc⟩):=ac.out
       go_upto_region 30 with fail
       have Q:Hid (A8 c (X7.setCell ⟨c.heap.size+2,2,none⟩ (.int .i64 12)) ⟨P,0,pf,pl,pc⟩ R ⟨m,2,12,tf,tl,tc⟩):=ai.out.set 2 (.int .i64 12) rfl;obtain⟨X8,bw⟩:∃X8,Hid (X7.setCell ⟨c.heap.size+2,2,none⟩ (.int .i64 12)=X8):=⟨_,rfl⟩
       rw[bw.out]at Q ⊢;clear I M n K J e5 B u E D G C f0 f1 f2 f3 f4 f5 j z0 O T z3 z4 z5 y0 y1 y2 y3 Z y5 f;obtain⟨I,M,n,K,J,e5⟩:=Q.out.prf;obtain⟨⟨B,u,E,D,G,C⟩,⟨f0,f1,f2,f3,f4,f5⟩,j⟩:=dZ Q.out.r;obtain⟨⟨z0,O,T,z3,z4,z5⟩,⟨y0,y1,y2,y3,Z,y5⟩,f⟩:=dZ Q.out.z;simp only at B u E D G C;go_wp2;obtain⟨x0,x1,x2,x3,x4,x5⟩:=ob Q.out.z (.string m) (.int .i64 2) (.int .i64 12) (.string tf) (.int .i64 tl) (.int .i64 tc);exact QY (v:=.agg #[.string m,.int .i64 2,.int .i64 12,.string tf,.int .i64 tl,.int .i64 tc]) (by simp[results,results89,go_sem,x0,x1,x2,x3,x4,x5]) rfl ⟨by rw[HX.out];rfl,(((((Q.out.kept.setCell (QV (by simp)) _).setCell (QV (by simp)) _).setCell (QV (by simp)) _).setCell (QV (by simp)) _).setCell (QV (by simp)) _).setCell (QV (by simp)) _⟩
      ·rw[QT (by simp)]at ac
       have HX:Hid (V=⟨m,4,0,⟨#[]⟩,0,0⟩):=ac.out;go_wp2;obtain⟨x0,x1,x2,x3,x4,x5⟩:=ob ai.out.z (.string m) (.int .i64 4) (.int .i64 0) (.string ⟨#[]⟩) (.int .i64 0) (.int .i64 0);exact QY (v:=.agg #[.string m,.int .i64 4,.int .i64 0,.string ⟨#[]⟩,.int .i64 0,.int .i64 0]) (by simp[results,results89,go_sem,x0,x1,x2,x3,x4,x5]) rfl ⟨by rw[HX.out];rfl,(((((ai.out.kept.setCell (QV (by simp)) _).setCell (QV (by simp)) _).setCell (QV (by simp)) _).setCell (QV (by simp)) _).setCell (QV (by simp)) _).setCell (QV (by simp)) _⟩
  ·rw[hh,QW (by omega),Sa]at ad
   rw[hh];have ea:(0:Int)<=(al:Int):=by omega
   have eb:(al:Int)<(P.length:Int):=by omega
   have HX:Hid (V=⟨m,3,0,(bO P al).file,(bO P al).line,(bO P al).col⟩):=ad.out;obtain⟨gP,az,ax,-,-,-,q3,q4,q5⟩:=cm.step (cm.Vb HP.out ap.out.kept) al hk
   have HQ:Hid (∀F:World,ab [] c F->gP<F.heap.size/\F.cell? ⟨gP,al*6+3,none⟩=some (.string (bO P al).file)/\F.cell? ⟨gP,al*6+4,none⟩=some (.int .i64 (bO P al).line)/\F.cell? ⟨gP,al*6+5,none⟩=some (.int .i64 (bO P al).col)):=fun F kx=>by
    obtain⟨g2,n,h2,-,-,-,c3,c4,c5⟩:=cm.step (cm.Vb HP.out kx) al hk;rw[az]at n
    cases n
    exact⟨h2,c3,c4,c5⟩
   generalize (bO P al).file=sf at *;generalize (bO P al).line=sl at *;generalize (bO P al).col=sc at *;clear ax q3 q4 q5
   go_upto_region 8 with fail
   have U:Hid (A8 c (w3.setCell ⟨c.heap.size+2,1,none⟩ (.int .i64 3)) ⟨P,0,pf,pl,pc⟩ R ⟨m,3,0,pf,pl,pc⟩):=ap.out.set 1 (.int .i64 3) rfl;obtain⟨X4,bv⟩:∃X4,Hid (w3.setCell ⟨c.heap.size+2,1,none⟩ (.int .i64 3)=X4):=⟨_,rfl⟩
   rw[bv.out]at U ⊢;clear I M n K J e5 B u E D G C f0 f1 f2 f3 f4 f5 j z0 O T z3 z4 z5 y0 y1 y2 y3 Z y5 f;obtain⟨I,M,n,K,J,e5⟩:=U.out.prf;obtain⟨⟨B,u,E,D,G,C⟩,⟨f0,f1,f2,f3,f4,f5⟩,j⟩:=dZ U.out.r;obtain⟨⟨z0,O,T,z3,z4,z5⟩,⟨y0,y1,y2,y3,Z,y5⟩,f⟩:=dZ U.out.z;simp only at B u E D G C;simp only at I M n K J;obtain⟨ax,q3,q4,q5⟩:=HQ.out X4 U.out.kept;rw[az]at I
   go_upto_region 9 with fail
   have N:Hid (A8 c (((X4.setCell ⟨c.heap.size+2,3,none⟩ (.string sf)).setCell ⟨c.heap.size+2,4,none⟩ (.int .i64 sl)).setCell ⟨c.heap.size+2,5,none⟩ (.int .i64 sc)) ⟨P,0,pf,pl,pc⟩ R ⟨m,3,0,sf,sl,sc⟩):=((U.out.set (r':=⟨m,3,0,sf,pl,pc⟩) 3 (.string sf) rfl).set (r':=⟨m,3,0,sf,sl,pc⟩) 4 (.int .i64 sl) rfl).set 5 (.int .i64 sc) rfl;obtain⟨X5,br⟩:∃X5,Hid (((X4.setCell ⟨c.heap.size+2,3,none⟩ (.string sf)).setCell ⟨c.heap.size+2,4,none⟩ (.int .i64 sl)).setCell ⟨c.heap.size+2,5,none⟩ (.int .i64 sc)=X5):=⟨_,rfl⟩
   rw[br.out]at N ⊢;clear I M n K J e5 B u E D G C f0 f1 f2 f3 f4 f5 j z0 O T z3 z4 z5 y0 y1 y2 y3 Z y5 f;obtain⟨I,M,n,K,J,e5⟩:=N.out.prf;obtain⟨⟨B,u,E,D,G,C⟩,⟨f0,f1,f2,f3,f4,f5⟩,j⟩:=dZ N.out.r;obtain⟨⟨z0,O,T,z3,z4,z5⟩,⟨y0,y1,y2,y3,Z,y5⟩,f⟩:=dZ N.out.z;simp only at B u E D G C;go_wp2;obtain⟨x0,x1,x2,x3,x4,x5⟩:=ob N.out.z (.string m) (.int .i64 3) (.int .i64 0) (.string sf) (.int .i64 sl) (.int .i64 sc);exact QY (v:=.agg #[.string m,.int .i64 3,.int .i64 0,.string sf,.int .i64 sl,.int .i64 sc]) (by simp[results,results89,go_sem,x0,x1,x2,x3,x4,x5]) rfl ⟨by rw[HX.out];rfl,(((((N.out.kept.setCell (QV (by simp)) _).setCell (QV (by simp)) _).setCell (QV (by simp)) _).setCell (QV (by simp)) _).setCell (QV (by simp)) _).setCell (QV (by simp)) _⟩
structure fB(w:World)(v:Nat)(fs:Fs)(h:Hd)(on:Bool)(p2 p3 p4:Value):Prop where
 d:w.heap[v]?=some (.cells #[.slice h.ao fs.length h.cap,.bool on,p2,p3,p4] 85 (0,0))
 own:aw w h (cr fs)
 far:h.blk≠some v
 le:fs.length<=4
theorem fB.Vb(a:fB f n D T y7 N g z6)(k:ab [] f x):fB x n D T y7 N g z6 :=
 ⟨k.get a.d (by simp),a.own.Vb k,a.far,a.le⟩
def DC(w:World)(v:Nat)(h:Hd)(fs:Fs):Prop:=∃on p2 p3 p4,fB w v fs h on p2 p3 p4
theorem fB.keptS(a:fB f n D T y7 N g z6)(k:ab y6 f x)(e:n∉y6)(c:∀q,T.blk=some q->q∉y6):fB x n D T y7 N g z6 :=
 ⟨k.get a.d e,a.own.Vg (fun q b=>k.block q (a.own.lt b) (c q b)),a.far,a.le⟩
theorem aw.putAt{r:dN}(o:aw f T r)(c:T.ao=some ⟨n,0,none⟩)(j:Nat)(v:Value):aw (f.setCell ⟨n,j,none⟩ v) T ⟨r.e,r.size,r.n,r.xs.set j v⟩:=by
 refine⟨by rw[Rv];exact o.1,?_⟩
 rcases o.2 with ⟨d,t⟩ | ⟨u,g,a,d,l,k,m,p,i,h⟩
 ·injection d with b
  rw[b]at c;cases c
 ·injection d with b s q
  rw[b]at c
  cases c
  refine QV ⟨n,g,a.setIfInBounds j v,by rw[b,q],l,by rw[ah k],m,p,by rw[Array.size_setIfInBounds];exact i,?_⟩;rw[TN]
  show(a.toList.set j v).take (r.n*r.size)=r.xs.set j v
  rw[<-h,UM]
theorem aw.srcFi(o:aw f T (cr D)):mV f T.ao T.cap D:=by
 refine⟨?_,fun k d=>?_⟩
 ·rcases o.Vm with ⟨e,b,_⟩ | ⟨g,c,n,m,h,-⟩
  ·have b:D.length=0:=b
   omega
  ·exact h
 ·obtain⟨g,a,i,-⟩:=qq o (show 0<D.length by omega)
  obtain⟨j,l⟩:=v9 D k d;exact⟨g,a,i,o.cell a (k*2) _ j,o.cell a (k*2+1) _ l⟩
theorem IX(w:World) :
  Calls prog 28 #[] w fun e a=>e=.returned (.pointer (some ⟨w.heap.size,0,none⟩))/\fB a w.heap.size [] ⟨none,0⟩ false (.pointer none) (.slice none 0 0) (.slice none 0 0)/\ab [] w a:=by
 have b:Hid (fB (w.alloc (.cells #[.slice none 0 0,.bool false,.pointer none,.slice none 0 0,.slice none 0 0] 85)) w.heap.size [] ⟨none,0⟩ false (.pointer none) (.slice none 0 0) (.slice none 0 0)):=⟨QS _ _,QZ _ _ _ _,(by intro e;cases e),by simp⟩;go_enter func28,ntmps28;go_wp2;go_ret;exact⟨rfl,b.out,(ab.refl [] _).alloc _⟩
end Go.Proofs.YtpddjjabfbfifaaGreat
