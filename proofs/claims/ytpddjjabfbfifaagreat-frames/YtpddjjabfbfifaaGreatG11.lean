import Derived.Deep.RegionLaw
import Derived.Test.YtpddjjabfbfifaaGreatG10
namespace Go.Proofs.YtpddjjabfbfifaaGreat
open Go.RowKit Tryz
set_option maxHeartbeats 0
variable{f x yu:World}{k:Sl}{S a:Hd}{H v o:Nat}{yr:List Sl}{y8:List ByteArray}{yt:List Nat}{I M g:Value}{y9:jS}{d:Fs}{y7:Bool}{yf:dN}{N:List (jS×Hd)}{yy:Option Addr}{ya:List Bool}(y T l:Nat)(b:List Tk)(D:Option Addr)(L:Nat)(w:List Sm)(yv:Nat)(z7:List ByteArray)(yd:List (List ByteArray))(yg:List (jS×Hd))(i:Option Addr)(y6:List Bool)(ys n:Nat)(yz:jS×Hd)
def LH(T:List Tk)(S:List Sm)(hs:List Nat)(M:List (List ByteArray))(V:List ByteArray)(B:List (List ByteArray))(i:Nat):Int :=
 if GI S hs i=true then(if(((M.getD i []).getD 0 ⟨#[]⟩).toList==((cI T S (hs.getD i 0)).getD 0 ⟨#[]⟩).toList)=true then 0 else 7)
 else if oc (iU V B (cI T S (hs.getD i 0))) (M.getD i [])=true then 0 else 8
def OE(T:List Tk)(S:List Sm)(a:Nat)(V:List ByteArray)(B:List (List ByteArray))(p:ByteArray×ByteArray):Bool:=tL T S a (iU V B [p.1]) (iU V B [p.2])
def pP(T:List Tk)(S:List Sm)(a c:Nat)(hs:List Nat)(M:List (List ByteArray))(V:List ByteArray)(B:List (List ByteArray)):Int :=
 if(dJ (LH T S hs M V B) hs.length==0)=false then dJ (LH T S hs M V B) hs.length else if(fH T S c).all (OE T S a V B)=true then 0 else 9
theorem pR(x:ByteArray)(N:Nat)(a:∀l∈yd,l.length<=N)(b:1<=N):(iU z7 yd [x]).length<=N:=by
 unfold iU;rw[RI,List.flatMap_nil,Rl];unfold LZ
 split
 ·rw[QQ]
  cases h:yd[wt z7 x]? with
  | none=>simp
  | some l=>exact a l (R4 h)
 ·simpa using b
theorem NZ(b:∀l∈yd,l.length<=n)(c:1<=n)(e:List ByteArray):(iU z7 yd e).length<=n*e.length:=by
 induction e with
 | nil=>exact Ro _
 | cons x e f =>
  have d:=pR z7 yd x n b c;have a:iU z7 yd (x :: e)=iU z7 yd [x]++iU z7 yd e:=by unfold iU;simp
  rw[a,Q0,Rp,Nat.mul_succ];omega
theorem yX(a:z7.length<=10000)(k:Nat):(lg b w yv z7 k).length<=10000*k:=by
 induction k with
 | zero=>simp[lg]
 | succ k c =>
  have:=EY b w yv z7 k z7.length;rw[wO,Q0];omega
theorem Jd(d:n<=10000):(fH b w n).length<=100000000:=by
 have a:=kj b w n
 have c:(fO b w (bW b w n) (bW b w n).length).length<=(bW b w n).length:=by
  unfold fO;rw[Ri,RK];exact Sc _ _
 have:=yX b w n (fO b w (bW b w n) (bW b w n).length) (by omega) (fO b w (bW b w n) (bW b w n).length).length;unfold fH;omega
set_option maxRecDepth 100000
theorem IQ(a:List Nat)(bz:Option Addr)(cH:Nat)(A:List Sl)(ba:Option Addr)(cA:Nat)(V:List ByteArray)(I:Option Addr)(cV:Nat)(B:List Sl)(H:Option Addr)(cB:Nat)(v:World)(hD:fz v y b D L w i n)(ok:nK b w T)(c6:l<T)(c5:bS (au w l).k=false)(hH:qD v bz a)(F:∀j∈a,j<T/\bS (au w j).k=false)(d6:a.length<=10000)(hA:cm v ba 1 Ff A)(b0:pa v A)(b1:∀s∈A,ge v s.ao s.L)(d5:a.length<=A.length)(d4:A.length<=100000)(hF:∀bf,bf<a.length->GI w a bf=true->1<(cI b w (a.getD bf 0)).length)(hN:∀s∈A,0<s.L.length/\s.L.length<=10000)(hV:ge v I V)(hB:cm v H 1 Ff B)(b2:pa v B)(c4:V.length<=B.length)(c0:B.length<=100000)(bc:∀s∈B,s.L.length<=10000) :
  Calls prog 178 #[.pointer (some ⟨y,0,none⟩),.int .i64 T,.int .i64 l,.slice bz a.length cH,.slice ba A.length cA,.agg #[.slice I V.length cV,.slice H B.length cB]] v fun e r=>e=.returned (.int .i64 (pP b w T l a (A.map (·.L)) V (B.map (·.L))))/\ab [] v r:=by
 obtain⟨W,HW⟩:∃W,Hid (v.alloc (.cells #[.slice I V.length cV,.slice H B.length cB] 271)=W):=⟨_,rfl⟩
 have BW:W.heap[v.heap.size]?=some (.cells #[.slice I V.length cV,.slice H B.length cB] 271 (0,0)):=by rw[<-HW.out];exact QS _ _
 have o:Hid (ab [] v W):=by show ab [] v W;rw[<-HW.out];exact(ab.refl [] _).alloc _
 have hn:=ok.ok.m;have d9:=ok.sm;have ea:=ok.tm;have bj:Hid _:=BW;have HD:Hid _:=hD.Vb o.out;have a5:Hid _:=ok;have HH:Hid _:=hH.Vb o.out;have cl:Hid _:=F;have HA:Hid _:=hA.Vb o.out;have d0:Hid _:=b0.Vb o.out;have cj:Hid (∀s∈A,∀U,ab [] v U->ge U s.ao s.L):=fun s a U kx=>(b1 s a).Vb kx
 have HF:Hid _:=hF;have HN:Hid _:=hN;obtain⟨M,bo⟩:∃M,Hid (A.map (·.L)=M):=⟨_,rfl⟩
 obtain⟨d,az⟩:∃d,Hid (B.map (·.L)=d):=⟨_,rfl⟩
 have a6:Hid (∀(E:List ByteArray) (ac:Option Addr) (cE:Nat) (U:World),ab [] v U->ge U ac E->E.length<=10000->Calls prog 179 #[.agg #[.slice I V.length cV,.slice H B.length cB],.slice ac E.length cE] U fun e r=>∃h',e=.returned (.slice h'.ao (iU V d E).length h'.cap)/\gw U r h' (aB (iU V d E))):=fun E ac cE U kx hE hl=>by rw[<-az.out];exact CN V I cV B H cB E ac cE U (hV.Vb kx) (hB.Vb kx) (b2.Vb kx) c4 c0 hE hl bc
 have R:Hid (∀dT∈d,dT.length<=10000):=fun dT hl=>by
  rw[<-az.out]at hl;obtain⟨s,a,rfl⟩:=Si.1 hl;exact bc s a
 have co:Hid (∀k,k<A.length->M.getD k []=(fQ A k).L):=fun k hk=>by rw[<-bo.out];exact wF A k hk
 rw[bo.out,az.out];have cq:Hid _:=wI y l b D L w i n;have ck:Hid (cU b (au w l).h):=ok.e l c6 c5;have HR:Hid (pP b w T l a M V d=if(dJ (LH b w a M V d) a.length==0)=false then dJ (LH b w a M V d) a.length else if(fH b w l).all (OE b w T V d)=true then 0 else 9):=rfl;clear hD ok hH F hA b0 b1 hF hN hV hB b2 bc;go_enter func178,ntmps178
 go_upto_region 1 with fail
 rw[HW.out];go_wp2
 go_loopg [13] a.length (fun g bf wr=>∃k:Nat,k<=a.length/\g=a.length-k/\bf=.int .i64 k/\Hid (dJ (LH b w a M V d) k=0)/\Hid (ab [] W wr))
 case atStart=>exact⟨0,by omega,rfl,rfl,rfl,ab.refl _ _⟩
 case round =>
  obtain⟨k,hk,hg,rfl,HZ,HK⟩:=hrel;have d1:Hid _:=o.out.trans HK.out
  by_cases F:k<a.length
  ·have db:(k:Int)<(a.length:Int):=by omega
   obtain⟨c9,cb⟩:=cl.out a[k] (Rb F);have S:a[k]<w.length:=by omega
   have be:a.getD k 0=a[k]:=by rw[QQ,QP F];rfl
   obtain⟨gH,rfl,c8,cR⟩:=(qD.Vb HH.out HK.out) k a[k] (QP F);have ax:Hid (Calls prog 72 #[.pointer (some ⟨y,0,none⟩),.int .i64 ((a[k]:Nat):Int)] wr fun e r=>∃h',e=.returned (.slice h'.ao (bu b w[a[k]].h).length h'.cap)/\vj wr r h' (bu b w[a[k]].h)):=kD y a[k] b D L w _ n wr (fz.Vb HD.out HK.out) S (by omega) (by rw[bM w a[k] S];exact a5.out.e a[k] c9 cb);have bk:Hid (bu b w[a[k]].h=cI b w (a.getD k 0)):=by show _=_;unfold cI;rw[be,bM w a[k] S]
   have b4:=kg b w[a[k]].h;rw[bk.out]at ax b4;have bs:Hid (GI w a k=(w[a[k]].k.toList == [36,102])):=by show _=_;unfold GI;rw[be,bM w a[k] S]
   have aT:Hid _:=HF.out k F
   have ct:Hid (∀r:World,ab [] W r->r.cell? ⟨gH,k,none⟩=some (.int .i64 ((a[k]:Nat):Int))/\gH<r.heap.size/\∃gs,i=some ⟨gs,0,none⟩/\gs<r.heap.size/\r.cell? ⟨y,1,none⟩=some (.slice i w.length n)/\y<r.heap.size/\r.cell? ⟨gs,a[k]*4+3,none⟩=some (.string w[a[k]].k)):=fun r kw=>by
    obtain⟨g2,e2,h2,c2⟩:=(qD.Vb HH.out kw) k a[k] (QP F)
    cases e2
    have hd:=fz.Vb HD.out kw;obtain⟨-,s0,hb⟩:=hd.cells;obtain⟨gs,e3,ad,-,-,-,q3⟩:=hd.s.2 a[k] w[a[k]] (QP S);exact⟨c2,h2,gs,e3,ad,s0,hb,q3⟩
   have af:k<A.length:=by omega
   have c:Hid (LH b w a M V d k=if GI w a k=true then(if(((fQ A k).L.getD 0 ⟨#[]⟩).toList==((cI b w (a.getD k 0)).getD 0 ⟨#[]⟩).toList)=true then 0 else 7) else if oc (iU V d (cI b w (a.getD k 0))) (fQ A k).L=true then 0 else 8):=by show _=_;unfold LH;rw[co.out k af]
   have C:Hid ((LH b w a M V d k==0)=false->pP b w T l a M V d=LH b w a M V d k):=fun h=>by
    have:=ou HZ.out h F;rw[HR.out,this,QW h]
   have Z:Hid (LH b w a M V d k=0->dJ (LH b w a M V d) (k+1)=0):=fun h=>by rw[dJ,HZ.out];exact h
   rw[bs.out]at c aT;clear bk bs be cb;have ei:((a[k]:Nat):Int)<(w.length:Int):=by omega
   have eh:(0:Int)<=((a[k]:Nat):Int):=by omega
   obtain⟨X,HX⟩:∃X,Hid (cI b w (a.getD k 0)=X):=⟨_,rfl⟩
   rw[HX.out]at ax b4 c aT;generalize w[a[k]].k=sk at *;generalize a[k]=j at *
   go_upto_region 5 with (go_at_call 72;refine QU ax.out ?_;rintro e w1 ⟨h1,rfl,x1⟩)
   have a0:Hid _:=HK.out.trans x1.kept;have bw:Hid _:=x1.own.srcX;obtain⟨bT,ai,gs,rfl,ad,s0,b6,q3⟩:=ct.out w1 a0.out;obtain⟨a1,c1⟩:=h1;clear cR c8 x1;have b3:=HN.out (fQ A k) (jK A k af);have Q:Hid _:=cj.out (fQ A k) (jK A k af);have ar:Hid (∀r:World,ab [] W r->∃gA,ba=some ⟨gA,0,none⟩/\gA<r.heap.size/\r.cell? ⟨gA,k,none⟩=some (.slice (fQ A k).ao (fQ A k).L.length (fQ A k).cap)):=fun r kw=>cm.sl (cm.Vb HA.out kw) k af
   have dv:(k:Int)<(A.length:Int):=by omega
   generalize fQ A k=s at *;obtain⟨ds,ch,sL⟩:=s;simp only at Q ar b3 c;obtain⟨c3,d7⟩:=b3
   cases hf:(sk.toList == [36,102])
   ·rw[hf,QT (by simp)]at c
    go_quiet (fail)
    obtain⟨N,K⟩:∃N,Hid (w1.drewN nq=N):=⟨_,rfl⟩
    go_upto_region 8 with fail
    rw[K.out];have k2:ab [] w1 N:=by rw[<-K.out];exact(ab.refl [] w1).drewN nq
    have f:Hid _:=a0.out.trans k2;have BR:=f.out.get bj.out (by simp);have r0:N.cell? ⟨v.heap.size,0,none⟩=some (.slice I V.length cV):=by rw[aa BR];rfl
    have r1:N.cell? ⟨v.heap.size,1,none⟩=some (.slice H B.length cB):=by rw[aa BR];rfl
    have dp:=ae BR;have P:Hid _:=(a6.out X a1 c1 N (o.out.trans f.out) (ge.Vb bw.out k2) (by omega));have dk:=NZ V d 10000 R.out (by omega) X;obtain⟨Y,HY⟩:∃Y,Hid (iU V d X=Y):=⟨_,rfl⟩
    rw[HY.out]at P c dk;clear bT ai ad s0 b6 q3 K
    go_upto_region 9 with (go_at_call 179;refine QU P.out ?_;rintro e w3 ⟨h3,rfl,x3⟩)
    have G:Hid _:=f.out.trans x3.kept;obtain⟨gA,rfl,c7,cL⟩:=ar.out w3 G.out;have a7:Hid _:=(C0 Y sL h3.ao ds h3.cap ch w3 x3.own.srcX (Q.out w3 (o.out.trans G.out)) (by omega));obtain⟨sm,cF⟩:∃sm,Hid (oc Y sL=sm):=⟨_,rfl⟩
    rw[cF.out]at a7 c;clear x3 r0 r1 dp
    cases sm
    ·rw[QT (by simp)]at c
     have J:Hid _:=(C.out (by rw[c.out];rfl));rw[c.out]at J;go_wp2_with (go_at_call 133;refine QU a7.out ?_;rintro e w4 ⟨rfl,k4⟩;have u:Hid _:=G.out.trans k4;clear k4);go_ret;exact⟨QN J.out.symm,o.out.trans u.out⟩
    ·rw[QW rfl]at c
     have J:Hid _:=Z.out c.out;go_wp2_with (go_at_call 133;refine QU a7.out ?_;rintro e w4 ⟨rfl,k4⟩;have u:Hid _:=G.out.trans k4;clear k4)
     go_roundg (a.length-(k+1))
     case measure=>omega
     case rel=>exact⟨k+1,by omega,rfl,by go_num,J,u⟩
   ·rw[hf,QW rfl]at c
    have ec:=aT.out hf;obtain⟨gX,eX,ca,cX⟩:=bw.out 0 _ (mm X 0 (by omega));replace eX:a1=some ⟨gX,0,none⟩:=eX;subst eX
    go_quiet (fail)
    obtain⟨N,K⟩:∃N,Hid (w1.drewN nq=N):=⟨_,rfl⟩
    go_upto_region 6 with fail
    rw[K.out];have k2:ab [] w1 N:=by rw[<-K.out];exact(ab.refl [] w1).drewN nq
    have f:Hid _:=a0.out.trans k2;obtain⟨gA,rfl,c7,cL⟩:=ar.out N f.out;obtain⟨g0,es,ef,d2⟩:=Q.out N (o.out.trans f.out) 0 _ (mm sL 0 c3);subst es;have d3:N.cell? ⟨gX,0,none⟩=some (.string (X.getD 0 ⟨#[]⟩)):=by rw[Q6 (k2.block gX ca (by simp))];exact cX
    have dt:=QX ca k2.size;have eb:(0:Int)<(X.length:Int):=by omega
    have dz:(0:Int)<(sL.length:Int):=by omega
    generalize sL.getD 0 ⟨#[]⟩=x at *;generalize X.getD 0 ⟨#[]⟩=ag at *;clear bT ai ad s0 b6 q3 K cX k2 nq
    cases cf:(x.toList==ag.toList)
    ·rw[cf,QT (by simp)]at c
     have J:Hid _:=(C.out (by rw[c.out];rfl));rw[c.out]at J
     go_quiet (fail)
     have u:Hid _:=f.out.trans ((ab.refl [] N).drewN nq);go_wp2;go_ret;exact⟨QN J.out.symm,o.out.trans u.out⟩
    ·rw[cf,QW rfl]at c
     have J:Hid _:=Z.out c.out
     go_quiet (fail)
     have u:Hid _:=f.out.trans ((ab.refl [] N).drewN nq);go_wp2
     go_roundg (a.length-(k+1))
     case measure=>omega
     case rel=>exact⟨k+1,by omega,rfl,by go_num,J,u⟩
  ·have e:k=a.length:=by omega
   subst e;rw[HZ.out,QT (by decide)]at HR;have db:¬(a.length:Int)<(a.length:Int):=by omega
   have P:Hid _:=(cq.out wr (fz.Vb HD.out HK.out) (a5.out.mono (by omega)) (by omega) ck.out);obtain⟨t,br⟩:∃t,Hid (fH b w l=t):=⟨_,rfl⟩
   rw[br.out]at P HR
   go_upto_region 13 with (go_at_call 64;refine QU P.out ?_;rintro e w2 ⟨h2,rfl,x2⟩)
   have f:Hid _:=HK.out.trans x2.kept;have cu:Hid _:=x2.own.srcG LY;have d8:t.length<=100000000:=by rw[<-br.out];exact Jd b w l (by omega)
   obtain⟨ap,cp⟩:=h2;clear x2 P HZ;go_wp2
   go_loopg [18] t.length (fun g bf wr=>∃m:Nat,m<=t.length/\g=t.length-m/\bf=.int .i64 m/\Hid (∀q (O:q<t.length),q<m->OE b w T V d t[q]=true)/\Hid (ab [] w2 wr))
   case atStart=>exact⟨0,by omega,rfl,rfl,(fun q _ h=>by omega),ab.refl _ _⟩
   case round =>
    obtain⟨m,hm,eg,rfl,bg,G⟩:=hrel;have u:Hid _:=f.out.trans G.out
    by_cases an:m<t.length
    ·have df:(m:Int)<(t.length:Int):=by omega
     obtain⟨gP,eP,bd,cP⟩:=cu.out m t[m] (QP an);subst eP
     have bl:Hid (∀r:World,ab [] w2 r->r.cell? ⟨gP,m*2,none⟩=some (.string t[m].1)/\r.cell? ⟨gP,m*2+1,none⟩=some (.string t[m].2)/\gP<r.heap.size/\r.cell? ⟨v.heap.size,0,none⟩=some (.slice I V.length cV)/\r.cell? ⟨v.heap.size,1,none⟩=some (.slice H B.length cB)/\v.heap.size<r.heap.size):=fun r kw=>by
      have BR:=(f.out.trans kw).get bj.out (by simp);exact⟨by rw[Q6 (kw.block gP bd (by simp))];exact cP 0 _ rfl,by rw[Q6 (kw.block gP bd (by simp))];exact cP 1 _ rfl,QX bd kw.size,by rw[aa BR];rfl,by rw[aa BR];rfl,ae BR⟩
     have bp:Hid (OE b w T V d t[m]=tL b w T (iU V d [t[m].1]) (iU V d [t[m].2])):=rfl
     have C:Hid (OE b w T V d t[m]=false->pP b w T l a M V d=9):=fun h=>by
      rw[HR.out,QT];rw[Sn];intro b5;have:=b5 t[m] (Rb an);rw[h]at this;cases this
     have Z:Hid (OE b w T V d t[m]=true->∀q (O:q<t.length),q<m+1->OE b w T V d t[q]=true):=fun h q O h2=>by
      by_cases e:q=m
      ·subst e;exact h
      ·exact bg.out q O (by omega)
     generalize OE b w T V d t[m]=mp at *;generalize t[m].1=x at *;generalize t[m].2=ag at *;clear cP;obtain⟨cx,cy,al,v0,v1,cc⟩:=bl.out wr G.out;have dl:=pR V d x 10000 R.out (by omega);have ej:=pR V d ag 10000 R.out (by omega)
     have bv:Hid (ge (wr.alloc (.cells #[.string x] 9)).drew (some ⟨wr.heap.size,0,none⟩) [x]):=by
      intro q z O;have hk:(wr.alloc (.cells #[.string x] 9)).drew.heap[wr.heap.size]?=some (.cells #[.string x] 9 (0,0)):=QS _ _;refine⟨_,rfl,ae hk,?_⟩;rw[aa hk]
      match q,O with
      | 0,O=>simp at O;subst O;rfl
     go_upto_region 16 with fail
     go_region_with (go_at_call 179;refine(a6.out [x] (some ⟨wr.heap.size,0,none⟩) 1 _ (by exact((o.out.trans u.out).alloc _).drew) (by exact bv.out) (by simp)).mono ?_;rintro e w5 ⟨h5,rfl,x5⟩)
     all_goals
      have a2:Hid (ab [] w2 w5):=((G.out.alloc _).drew).trans x5.kept;have bx:Hid _:=x5.own.srcX;obtain⟨PX,cs⟩:∃PX,Hid (iU V d [x]=PX):=⟨_,rfl⟩
      rw[cs.out]at bx dl bp ⊢
      have cz:Hid (ge (w5.alloc (.cells #[.string ag] 9)).drew (some ⟨w5.heap.size,0,none⟩) [ag]):=by
       intro q z O;have hk:(w5.alloc (.cells #[.string ag] 9)).drew.heap[w5.heap.size]?=some (.cells #[.string ag] 9 (0,0)):=QS _ _;refine⟨_,rfl,ae hk,?_⟩;rw[aa hk]
       match q,O with
       | 0,O=>simp at O;subst O;rfl
      clear cx cy al v0 v1 cc x5 bv;obtain⟨cx,cy,al,v0,v1,cc⟩:=bl.out w5 a2.out
      go_upto_region 17 with fail
      go_region_with (go_at_call 179;refine(a6.out [ag] (some ⟨w5.heap.size,0,none⟩) 1 _ (by exact(((o.out.trans f.out).trans a2.out).alloc _).drew) (by exact cz.out) (by simp)).mono ?_;rintro e w6 ⟨h6,rfl,x6⟩)
      all_goals
       have a3:Hid (ab [] w2 w6):=((a2.out.alloc _).drew).trans x6.kept;have aS:Hid _:=(Hz y T PX (iU V d [ag]) h5.ao h6.ao h5.cap h6.cap b D L w i n w6 (fz.Vb HD.out (f.out.trans a3.out)) a5.out (ge.Vb bx.out ((((ab.refl [] w5).alloc _).drew).trans x6.kept)) x6.own.srcX (by omega) (by omega));rw[<-bp.out]at aS;clear x6
       cases mp
       ·have J:Hid _:=C.out rfl
        go_wp2_with (go_at_call 214;refine QU aS.out ?_;rintro e w7 ⟨rfl,k7⟩;have a4:Hid _:=(f.out.trans a3.out).trans k7;clear k7);go_ret;exact⟨QN J.out.symm,o.out.trans a4.out⟩
       ·have J:Hid _:=Z.out rfl
        go_wp2_with (go_at_call 214;refine QU aS.out ?_;rintro e w7 ⟨rfl,k7⟩;have a4:Hid _:=a3.out.trans k7;clear k7)
        go_roundg (t.length-(m+1))
        case measure=>omega
        case rel=>exact⟨m+1,by omega,rfl,by go_num,J,a4⟩
    ·have em:m=t.length:=by omega
     have J:Hid (pP b w T l a M V d=0):=by
      show _=_
      rw[HR.out,QW];rw[Sn];intro p hp;obtain⟨q,O,e⟩:=R0 hp;rw[<-e];exact bg.out q O (by omega)
     have df:¬(m:Int)<(t.length:Int):=by omega
     go_wp2;go_ret;exact⟨QN J.out.symm,o.out.trans u.out⟩
def ui(T:List Tk)(S:List Sm)(a:Nat)(P:List dj)(i:Nat)(M:List (List ByteArray)):List ByteArray×Int :=
 if(bO P i).ref=-2 then(M.getD (bO P i).back [],0)
 else if aC (au S (bO P i).ref.toNat).k=false then(if 32<(cI T S (bO P i).ref.toNat).length then([],10) else(cI T S (bO P i).ref.toNat,0))
 else if dS P i<0 then([],6)
 else
  let hs:=bW T S (bO P i).ref.toNat
  let on:=(mJ P i).map (fun q=>M.getD q [])
  let why:=pP T S a (bO P i).ref.toNat hs on (gK T S hs hs.length) (gi S hs on hs.length)
  if(why==0)=false then([],why)
  else if 32<(iU (gK T S hs hs.length) (gi S hs on hs.length) (cI T S (bO P i).ref.toNat)).length then([],10)
  else(iU (gK T S hs hs.length) (gi S hs on hs.length) (cI T S (bO P i).ref.toNat),0)
structure oo(w:World)(s:Sl):Prop where
 ok:pr w s
 x:ge w s.ao s.L
 pos:0<s.L.length
 le:s.L.length<=10000
theorem oo.Vb(h:oo f k)(a:ab [] f x):oo x k:=⟨h.ok.Vb a,h.x.Vb a,h.pos,h.le⟩
def Kk(T:List Tk)(S:List Sm)(n:Nat):Prop:=∀j,j<n->(aC (au S j).k||aG (au S j).k)=true->0<(cI T S j).length/\(((au S j).k.toList == [36,102])=true->1<(cI T S j).length)
structure Kv(T:List Tk)(S:List Sm)(a:Nat)(P:List dj)(i:Nat):Prop where
 Vm:((bO P i).ref=-2/\(bO P i).back<i)∨∃r,r<a/\(bO P i).ref=(r:Nat)/\(aC (au S r).k||aG (au S r).k)=true/\(aC (au S r).k=true->(bO P i).need=(bW T S r).length)
theorem yG:∀j∈bW b w n,j<n/\bS (au w j).k=false/\aG (au w j).k=true:=fun j d=>by
 have c:=sK b w n j d;have a:=(RH.1 d).2;unfold sJ at a;rw[Rg,RB,Rg]at a
 rcases a.2 with h | ⟨h,-⟩
 ·exact⟨c,fX h (by decide),by unfold aG;rw[h];simp⟩
 ·exact⟨c,fX h (by decide),by unfold aG;rw[h];simp⟩
def Ku(w:World)(A:List Sl)(r:List ByteArray×Int)(e:Ending)(w':World):Prop:=∃s:Sl,e=.returned (.tuple #[.slice s.ao s.L.length s.cap,.int .i64 r.2])/\s.L=r.1/\((r.2==0)=true->oo w' s)/\(s∈A∨∀q o,s.ao=some ⟨q,o,none⟩->w.heap.size<=q)/\ab [] w w'
theorem KN(e:S.ao=some ⟨H,v,none⟩):S.blk=some H:=by unfold Hd.blk;rw[e];rfl
theorem qy{r:List ByteArray×Int}{e:Ending}(a:r.1=[])(b:(r.2==0)=false)(c:e=.returned (.tuple #[.slice none 0 0,.int .i64 r.2]))(k:ab [] f x):Ku f yr r e x :=
 ⟨⟨none,0,[]⟩,c,a.symm,fun h=>(by rw[b]at h;cases h),QV (fun q o e=>by cases e),k⟩
theorem gw.sh(a:gw f x S (aB y8))(b:0<y8.length)(c:y8.length<=10000):oo x ⟨S.ao,S.cap,y8⟩:=⟨a.sl,a.own.srcX,b,c⟩
theorem xK{α:Type}(R:List Nat)(f:Nat->α)(k:Nat)(h:k<R.length):(R.take (k+1)).map f=(R.take k).map f++[f R[k]]:=by
 rw[RG h,Ry];rfl
theorem Lq{x:ByteArray}(h:aJ y8 x=false):wt y8 x=y8.length:=by
 refine Lp rfl (fun j a _=>?_);unfold aJ at h;rw[TH]at h;have:=h y8[j] (Rb a);simpa using this
theorem N0{B:List (List ByteArray)}{X:List ByteArray}(a:0<X.length)(h:aJ y8 (X.getD 0 ⟨#[]⟩)=false):0<(iU y8 B X).length:=by
 cases X with
 | nil=>simp at a
 | cons x X =>
  have e:(x :: X).getD 0 ⟨#[]⟩=x:=rfl;rw[e]at h;unfold iU;rw[RI,Q0];unfold LZ;rw[Lq h,QT (by omega)];simp;omega
theorem Jo{S:List Sm}{M:List (List ByteArray)}(h:∀l∈M,l.length<=v):∀l∈gi S yt M H,l.length<=v:=by
 intro l a;unfold gi at a;obtain⟨i,-,rfl⟩:=Si.1 a;rw[RT,QQ]
 cases e:M[i]? with
 | none=>simp
 | some m=>have:=h m (R4 e);show m.length-1<=v;omega
def OL(T:List Tk)(S:List Sm)(n:Nat):Prop:=∀r,r<n->aC (au S r).k=true->aJ (gK T S (bW T S r) (bW T S r).length) ((cI T S r).getD 0 ⟨#[]⟩)=false
theorem JL(P:List dj)(ax:Option Addr)(cP:Nat)(bx:Int)(pf:ByteArray)(pl pc:Int)(A:List Sl)(dl:Option Addr)(cA:Nat)(p:World)(hD:fz p y b D L w i n)(ok:nK b w T)(hB:Kk b w T)(d1:OL b w T)(hn:T<w.length)(hP:cm p ax 6 kV P)(dT:P.length<=100000000)(bc:M0 P)(hi:l<P.length)(d0:Kv b w T P l)(hA:cm p dl 1 Ff A)(dp:∀s∈A,oo p s)(e9:A.length=l) :
  Calls prog 131 #[.pointer (some ⟨y,0,none⟩),.int .i64 T,.agg #[.slice ax P.length cP,.int .i64 bx,.string pf,.int .i64 pl,.int .i64 pc],.int .i64 l,.slice dl A.length cA] p fun e w'=>Ku p A (ui b w T P l (A.map (·.L))) e w':=by
 obtain⟨W,HW⟩:∃W,Hid (p.alloc (.cells #[.slice ax P.length cP,.int .i64 bx,.string pf,.int .i64 pl,.int .i64 pc] 122)=W):=⟨_,rfl⟩
 have BW:W.heap[p.heap.size]?=some (.cells #[.slice ax P.length cP,.int .i64 bx,.string pf,.int .i64 pl,.int .i64 pc] 122 (0,0)):=by rw[<-HW.out];exact QS _ _
 have cV:Hid (ab [] p W):=by show ab [] p W;rw[<-HW.out];exact(ab.refl [] _).alloc _
 have p0:W.cell? ⟨p.heap.size,0,none⟩=some (.slice ax P.length cP):=by rw[aa BW];rfl
 have e2:=ae BW;have fq:(l:Int)<(P.length:Int):=by omega
 obtain⟨gP,rfl,eT,q0,q1,q2,q3,q4,q5⟩:=cm.step (hP.Vb cV.out) l hi;have HP:Hid _:=hP;have HD:Hid _:=hD;have ai:Hid _:=ok;have cB:Hid _:=hB;have ex:Hid _:=d1;have HA:Hid _:=hA;have ct:Hid _:=dp;have fd:=ok.sm;have fi:=ok.tm;have e8:Hid _:=bc;obtain⟨M,cX⟩:∃M,Hid (A.map (·.L)=M):=⟨_,rfl⟩
 have c0:Hid (∀k,k<A.length->M.getD k []=(fQ A k).L):=fun k hk=>by rw[<-cX.out];exact wF A k hk
 rw[cX.out];have eb:Hid _:=tJ P (some ⟨gP,0,none⟩) cP bx pf pl pc dT bc (l+1) l;have c3:Hid (∀c,cm c (some ⟨gP,0,none⟩) 6 kV P->0<=dS P l->Calls prog 102 #[.agg #[.slice (some ⟨gP,0,none⟩) P.length cP,.int .i64 bx,.string pf,.int .i64 pl,.int .i64 pc],.int .i64 l] c fun e w'=>∃g,e=.returned (.slice (some ⟨g,0,none⟩) (bO P l).need (bO P l).need)/\nG w' g (mJ P l)/\ab [] c w'):=fun c h1 h2=>Jx P _ cP bx pf pl pc l c dT bc hi h1 h2
 have ar:Hid _:=Jy P l;have c2:Hid _:=Mj P l
 have a:Hid (ui b w T P l M=if(bO P l).ref=-2 then(M.getD (bO P l).back [],0)
  else if aC (au w (bO P l).ref.toNat).k=false then(if 32<(cI b w (bO P l).ref.toNat).length then([],10) else(cI b w (bO P l).ref.toNat,0))
  else if dS P l<0 then([],6)
  else
   let f:=bW b w (bO P l).ref.toNat
   let on:=(mJ P l).map (fun q=>M.getD q [])
   let F:=pP b w T (bO P l).ref.toNat f on (gK b w f f.length) (gi w f on f.length)
   if(F==0)=false then([],F)
   else if 32<(iU (gK b w f f.length) (gi w f on f.length) (cI b w (bO P l).ref.toNat)).length then([],10)
   else(iU (gK b w f f.length) (gi w f on f.length) (cI b w (bO P l).ref.toNat),0)):=rfl
 have a0:=d0.Vm;have d9:Hid _:=BW;clear d0 hD ok hB hP hA dp bc d1;obtain⟨iL,eV,d6,d7,d8⟩:=Re Ej;generalize bO P l=st at *;obtain⟨sr,sb,S,sf,sl,sc⟩:=st;simp only at q0 q1 q2 q3 q4 q5 a0 a c3 ar;obtain⟨W1,a6⟩:∃W1,Hid (W.alloc (.cells #[.int .i64 sr,.int .i64 (sb:Int),.int .i64 (S:Int),.string sf,.int .i64 sl,.int .i64 sc] 162)=W1):=⟨_,rfl⟩
 have B1:W1.heap[W.heap.size]?=some (.cells #[.int .i64 sr,.int .i64 (sb:Int),.int .i64 (S:Int),.string sf,.int .i64 sl,.int .i64 sc] 162 (0,0)):=by rw[<-a6.out];exact QS _ _
 have cq:ab [] W W1:=by rw[<-a6.out];exact(ab.refl [] _).alloc _
 have I:Hid _:=cV.out.trans cq
 have H:Hid (∀c:World,ab [] W1 c->(c.cell? ⟨W.heap.size,0,none⟩=some (.int .i64 sr)/\c.cell? ⟨W.heap.size,1,none⟩=some (.int .i64 (sb:Int))/\W.heap.size<c.heap.size)/\(c.cell? ⟨p.heap.size,0,none⟩=some (.slice (some ⟨gP,0,none⟩) P.length cP)/\c.cell? ⟨p.heap.size,1,none⟩=some (.int .i64 bx)/\c.cell? ⟨p.heap.size,2,none⟩=some (.string pf)/\c.cell? ⟨p.heap.size,3,none⟩=some (.int .i64 pl)/\c.cell? ⟨p.heap.size,4,none⟩=some (.int .i64 pc)/\p.heap.size<c.heap.size)):=fun c kx=>by
  have b1:=kx.get B1 (by simp);have b0:=(cq.trans kx).get d9.out (by simp);exact⟨⟨by rw[aa b1];rfl,by rw[aa b1];rfl,ae b1⟩,by rw[aa b0];rfl,by rw[aa b0];rfl,by rw[aa b0];rfl,by rw[aa b0];rfl,by rw[aa b0];rfl,ae b0⟩
 clear B1 cq BW;obtain⟨⟨N,s1,m⟩,p1,p2,p3,p4,p5,C⟩:=H.out W1 (ab.refl _ _)
 rcases a0 with ⟨rfl,fo⟩ | ⟨r,hr,rfl,bd,bf⟩
 ·rw[QW rfl]at a
  have be:sb<A.length:=by omega
  have fl:(sb:Int)<(A.length:Int):=by omega
  obtain⟨gA,rfl,eS,cc⟩:=cm.sl (cm.Vb HA.out I.out) sb be;have HO:Hid _:=(ct.out (fQ A sb) (jK A sb be)).Vb I.out;have ep:Hid (fQ A sb∈A):=jK A sb be;rw[c0.out sb be]at a;generalize fQ A sb=s at *;obtain⟨Q,t,sL⟩:=s;simp only at cc a;go_enter func131,ntmps131
  go_upto_region 1 with fail
  rw[HW.out]
  go_upto_region 2 with fail
  rw[a6.out];go_wp2;go_ret2;rw[a.out];exact⟨⟨Q,t,sL⟩,rfl,rfl,fun _=>HO.out,Q1 ep.out,I.out⟩
 ·have K:r<w.length:=by omega
  rw[QT (by omega),Sa]at a;have fu:(((r:Nat):Int) == -2)=false:=UV (by omega);have fv:((r:Nat):Int)<(w.length:Int):=by omega
  have ft:(0:Int)<=((r:Nat):Int):=by omega
  have z:bS (au w r).k=false:=by
   unfold aC aG at bd;simp only[Bool.or_eq_true]at bd
   rcases bd with (h | h) | (h | h) <;> exact fX h (by decide)
  have cx:Hid (∀c,ab [] p c->Calls prog 72 #[.pointer (some ⟨y,0,none⟩),.int .i64 ((r:Nat):Int)] c fun e w'=>∃h',e=.returned (.slice h'.ao (cI b w r).length h'.cap)/\vj c w' h' (cI b w r)):=fun c kx=>by
   have:=kD y r b D L w i n c (fz.Vb HD.out kx) K (by omega) (by rw[bM w r K];exact ai.out.e r hr z);rw[bM w r K]at this;exact this
  obtain⟨cj,-⟩:=cB.out r hr bd;have eL:(cI b w r).length<=b.length:=kg b _;obtain⟨X,HX⟩:∃X,Hid (cI b w r=X):=⟨_,rfl⟩
  rw[HX.out]at cx a cj eL
  have ev:Hid (∀c:World,ab [] p c->∃gs,i=some ⟨gs,0,none⟩/\gs<c.heap.size/\c.cell? ⟨y,1,none⟩=some (.slice i w.length n)/\y<c.heap.size/\c.cell? ⟨gs,r*4+3,none⟩=some (.string (au w r).k)):=fun c kx=>by
   have hd:=fz.Vb HD.out kx;obtain⟨-,N,G⟩:=hd.cells;obtain⟨gs,e3,ck,-,-,-,q3⟩:=hd.s.2 r w[r] (QP K);rw[bM w r K]at q3;exact⟨gs,e3,ck,N,G,q3⟩
  have cy:Hid _:=cx.out W1 I.out;go_enter func131,ntmps131
  go_upto_region 1 with fail
  rw[HW.out]
  go_upto_region 2 with fail
  rw[a6.out];clear q0 q1 q2 q3 q4 q5 p0 eT e2
  go_upto_region 5 with (go_at_call 72;refine QU cy.out ?_;rintro e w2 ⟨h2,rfl,x2⟩)
  have cR:Hid _:=I.out.trans x2.kept;have c7:Hid _:=x2.kept;have ei:Hid _:=x2.toL;clear x2 N s1 m p1 p2 p3 p4 p5 C;obtain⟨⟨N,s1,m⟩,p1,p2,p3,p4,p5,C⟩:=H.out w2 c7.out;obtain⟨gs,rfl,ck,t0,eP,t1⟩:=ev.out w2 cR.out;obtain⟨sk,df⟩:∃sk,Hid ((au w r).k=sk):=⟨_,rfl⟩
  rw[df.out]at t1 a bf;obtain⟨ba,ca⟩:∃ba,Hid (aC sk=ba):=⟨_,rfl⟩
  have cs:Hid (∀c,Calls prog 122 #[.string sk] c fun e w'=>e=.returned (.bool ba)/\w'=c):=fun c=>by rw[<-ca.out];exact fT sk c
  rw[ca.out]at a bf
  go_quiet ((go_at_call 122;exact Rd (cs.out _)))
  go_upto_region 6 with fail
  obtain⟨w3,cb⟩:∃w3,Hid (w2.drewN nq=w3):=⟨_,rfl⟩
  rw[cb.out];have k3:ab [] w2 w3:=by rw[<-cb.out];exact(ab.refl [] w2).drewN nq
  have af:Hid _:=cR.out.trans k3;have c8:Hid _:=c7.out.trans k3;have b3:Hid _:=ei.out.Vb k3;clear N s1 m p1 p2 p3 p4 p5 C ck t0 eP t1 k3 cb cs;obtain⟨⟨N,s1,m⟩,p1,p2,p3,p4,p5,C⟩:=H.out w3 c8.out
  cases ba
  ·rw[QW rfl]at a
   by_cases az:32<X.length
   ·rw[QW az]at a
    have aS:(32:Int)<(X.length:Int):=by omega
    go_wp2;go_ret2;rw[a.out];exact qy rfl rfl rfl af.out
   ·rw[QT az]at a
    have aS:¬(32:Int)<(X.length:Int):=by omega
    go_wp2;go_ret2;rw[a.out];exact⟨⟨h2.ao,h2.cap,X⟩,rfl,rfl,fun _=>b3.out.sh cj (by omega),QV (fun q o e=>Q3 I.out.size (b3.out.far q (KN e))),af.out⟩
  ·rw[QT (by simp)]at a
   have b5:Hid (S=(bW b w r).length):=bf rfl;clear bf;have bz:Hid _:=eb.out w3 (by omega) hi (cm.Vb HP.out af.out)
   by_cases d3:dS P l<0
   ·rw[QW d3]at a
    generalize dS P l=bg at *;go_wp2_with (go_at_call 132;refine QU bz.out ?_;rintro e w4 ⟨rfl,k4⟩;have a1:Hid _:=af.out.trans k4;clear k4);go_ret2;rw[a.out];exact qy rfl rfl rfl a1.out
   ·rw[QT d3]at a
    have c1:Hid (∀c,ab [] p c->Calls prog 102 #[.agg #[.slice (some ⟨gP,0,none⟩) P.length cP,.int .i64 bx,.string pf,.int .i64 pl,.int .i64 pc],.int .i64 l] c fun e w'=>∃g,e=.returned (.slice (some ⟨g,0,none⟩) S S)/\nG w' g (mJ P l)/\ab [] c w'):=fun c kx=>c3.out c (cm.Vb HP.out kx) (by omega)
    have a4:Hid _:=(c2.out (by omega));obtain⟨R,HR⟩:∃R,Hid (mJ P l=R):=⟨_,rfl⟩
    rw[HR.out]at c1 a4 a ar;generalize dS P l=bg at *
    go_upto_region 11 with (go_at_call 132;refine QU bz.out ?_;rintro e w4 ⟨rfl,k4⟩)
    have a1:Hid _:=af.out.trans k4;have c9:Hid _:=c8.out.trans k4;have ej:Hid _:=b3.out.Vb k4;clear N s1 m p1 p2 p3 p4 p5 C k4;obtain⟨⟨N,s1,m⟩,p1,p2,p3,p4,p5,C⟩:=H.out w4 c9.out;have bp:Hid _:=c1.out w4 a1.out
    go_upto_region 14 with (go_at_call 102;refine QU bp.out ?_;rintro e w5 ⟨g5,rfl,i5,k5⟩)
    have eh:Hid _:=a1.out.trans k5;have ez:Hid _:=c9.out.trans k5;have el:Hid _:=ej.out.Vb k5;have eg:Hid _:=i5;have eq:Hid (gw w5 w5 ⟨none,0⟩ (lA [])):=⟨QZ _ _ _ _,(by intro k hk;cases hk),ab.refl _ _⟩;clear N s1 m p1 p2 p3 p4 p5 C k5 i5 bp bz;have fx:S<=10000:=by rw[b5.out];have:=kj b w r;omega
    go_wp2
    go_loopg [17,18] S (fun g o kv wr=>∃(k:Nat) (h:Hd) (O:List Sl),k<=S/\g=S-k/\o=.slice h.ao O.length h.cap/\kv=.int .i64 k/\O.length<=k/\Hid (O=(R.take k).map (fQ A))/\Hid (gw w5 wr h (lA O)))
    case atStart=>exact⟨0,⟨none,0⟩,[],by omega,rfl,rfl,rfl,QR _,by show _=_;simp,eq⟩
    case round =>
     obtain⟨k,h,O,hk,hg,rfl,rfl,fb,HO,v⟩:=hrel;have b2:Hid _:=eh.out.trans v.out.kept;have db:Hid _:=ez.out.trans v.out.kept
     by_cases eY:k<S
     ·have eX:(k:Int)<(S:Int):=by omega
      have cl:k<R.length:=by rw[ar.out];exact eY
      have fs:=a4.out R[k] (Rb cl);have e0:R[k]<A.length:=by omega
      obtain⟨g6,e6,fp,c6⟩:=(nG.src (show nG wr g5 R from v.out.kept.get eg.out (by simp))) k R[k] (QP cl)
      cases e6
      obtain⟨gA,rfl,eS,cc⟩:=cm.sl (cm.Vb HA.out b2.out) R[k] e0;have et:Hid (O++[fQ A R[k]]=(R.take (k+1)).map (fQ A)):=by show _=_;rw[xK R _ k cl,HO.out]
      have e5:((R[k]:Nat):Int)<(A.length:Int):=by omega
      have fr:(0:Int)<=((R[k]:Nat):Int):=by omega
      generalize fQ A R[k]=s at *;generalize R[k]=q at *;obtain⟨Q,t,sL⟩:=s;simp only at cc;have eH:=v.out.own;have eE:(lA O).n<=900000000:=by show O.length<=_;omega
      go_wp2_with (at_builtin;refine bN _ rfl (.tmp 70) (.tmp 78) 218 rfl iL (.slice none 0 0) 24 h (lA O) [.slice Q sL.length t] underlying218 eV d6 d7 d8 rfl Rc rfl eH eE (by omega) rfl rfl (by simp[Value.oneCell']) ?_;intro h7 w7 cp d4;rw[show([.slice Q sL.length t]:List Value)=Ff ⟨Q,t,sL⟩ from rfl,qw]at cp;have eo:Hid _:=v.out.Vl d4 cp;clear cp d4)
      go_roundg (S-(k+1))
      case measure=>omega
      case rel=>exact⟨k+1,h7,O++[⟨Q,t,sL⟩],by omega,rfl,by simp[lA,kU],by go_num,by simp;omega,et,eo⟩
     ·have ek:k=S:=by omega
      subst ek;have b6:Hid (O=R.map (fQ A)):=by show _=_;rw[HO.out,Tu (by rw[ar.out];exact QR _)]
      have an:Hid (O.length=k):=by show _=_;rw[b6.out,Ri,ar.out]
      have es:Hid (O.map (·.L)=R.map (fun q=>M.getD q [])):=by
       show _=_
       rw[b6.out,List.map_map];refine Ux (fun q hq=>?_);have:=a4.out q hq;exact(c0.out q (by omega)).symm
      have u:Hid (∀s∈O,∀c,ab [] p c->oo c s):=fun s f c kx=>by
       rw[b6.out]at f;obtain⟨q,hq,rfl⟩:=Si.1 f;have:=a4.out q hq;exact(ct.out _ (jK A q (by omega))).Vb kx
      have eX:¬(k:Int)<(k:Int):=by omega
      rw[<-es.out]at a;have bT:Hid _:=(nP y r b D L w _ n wr (fz.Vb HD.out b2.out) (ai.out.mono (by omega)) K (ai.out.e r hr z));have ac:Hid _:=yG b w r;have a5:Hid _:=(ex.out r hr (by rw[df.out];exact ca.out));rw[HX.out]at a5;have ch:(bW b w r).length<=10000:=by have:=kj b w r;omega
      obtain⟨d,ef⟩:∃d,Hid (bW b w r=d):=⟨_,rfl⟩
      rw[ef.out]at bT ac a b5 a5 ch;obtain⟨⟨N,s1,m⟩,-⟩:=H.out wr db.out
      go_upto_region 20 with (go_at_call 62;refine QU bT.out ?_;rintro e w7 ⟨h7,rfl,x7⟩)
      have ag:Hid _:=b2.out.trans x7.kept;have eA:Hid _:=db.out.trans x7.kept;have em:Hid _:=(el.out.Vb v.out.kept).Vb x7.kept;have er:Hid _:=v.out.Vb x7.kept;have br:Hid _:=x7.own.srcN;have bs:Hid _:=er.out.own.srcG vw
      have dv:∀l,l<d.length->GI w d l=true->1<(cI b w (d.getD l 0)).length:=fun q hq co=>by
       have e:d.getD q 0=d[q]:=by rw[QQ,QP hq];rfl
       unfold GI at co;rw[e]at co ⊢;obtain⟨j1,-,j3⟩:=ac.out d[q] (Rb hq);exact(cB.out d[q] (by omega) (by rw[j3];simp)).2 co
      have cH:Hid _:=dv;have bw:d.length<=O.length:=by rw[an.out,b5.out];exact QR _
      have dz:O.length<=100000:=by have:=an.out;omega
      have ap:Hid _:=(Ju y T b D L w _ n d h7.ao h7.cap O h.ao h.cap w7 (fz.Vb HD.out ag.out) ai.out br.out (fun j hj=>by have:=(ac.out j hj).1;omega) ch bs.out (fun s f=>(u.out s f w7 ag.out).ok) bw cH.out (fun s f=>(u.out s f w7 ag.out).pos));clear dv N s1 m x7 bT;obtain⟨V,c5⟩:∃V,Hid (gK b w d d.length=V):=⟨_,rfl⟩
      rw[c5.out]at ap a a5;have ey:Hid (V.length=(xO w d d.length).length):=by show _=_;rw[<-c5.out];unfold gK;simp
      obtain⟨OM,al⟩:∃OM,Hid (O.map (·.L)=OM):=⟨_,rfl⟩
      rw[al.out]at ap a;have cF:Hid ((gi w d OM d.length).length=(xO w d d.length).length):=by show _=_;unfold gi;simp
      have cL:Hid ((xO w d d.length).length<=d.length):=by
       show _<=_
       unfold xO;have:=Sc (GI w d) (List.range d.length);rw[Tf]at this;exact this
      have bo:Hid (∀e7∈gi w d OM d.length,e7.length<=10000):=Jo (fun e7 hl=>by
       rw[<-al.out]at hl;obtain⟨s,f,rfl⟩:=Si.1 hl;exact(u.out s f w7 ag.out).le)
      obtain⟨BV,ec⟩:∃BV,Hid (gi w d OM d.length=BV):=⟨_,rfl⟩
      rw[ec.out]at ap a cF bo
      go_upto_region 21 with (go_at_call 177;refine QU ap.out ?_;rintro e w8 ⟨hv,G,B,rfl,aT,dt,nv,nb⟩)
      obtain⟨Z,a7⟩:∃Z,Hid (w8.alloc (.cells #[.slice hv.ao V.length hv.cap,.slice G.ao B.length G.cap] 271)=Z):=⟨_,rfl⟩
      rw[a7.out];have k8:ab [] w8 Z:=by rw[<-a7.out];exact(ab.refl [] _).alloc _
      have B8:Z.heap[w8.heap.size]?=some (.cells #[.slice hv.ao V.length hv.cap,.slice G.ao B.length G.cap] 271 (0,0)):=by rw[<-a7.out];exact QS _ _
      have E:=nv.kept.trans k8;have J:Hid _:=ag.out.trans E;have eB:Hid _:=eA.out.trans E;have bl:Hid (B.length=(xO w d d.length).length):=by show _=_;rw[<-cF.out,<-aT,Ri]
      have d2:V.length<=B.length:=by rw[ey.out,bl.out];exact QR _
      have ds:B.length<=100000:=by have:=cL.out;rw[bl.out];omega
      have bk:Hid (∀s∈B,s.L.length<=10000):=fun s f=>bo.out s.L (by rw[<-aT];exact Si.2 ⟨s,f,rfl⟩)
      have c4:Hid _:=nv.own.srcX.Vb k8;have cE:Hid _:=(nb.own.srcG vw).Vb k8;have cu:Hid _:=dt.Vb E;have b4:Hid _:=(IQ y T r b D L w _ n d h7.ao h7.cap O h.ao h.cap V hv.ao hv.cap B G.ao G.cap Z (fz.Vb HD.out J.out) ai.out hr z (qD.Vb br.out E) (fun j hj=>⟨by have:=(ac.out j hj).1;omega,(ac.out j hj).2.1⟩) ch (cm.Vb bs.out E) (fun s f=>(u.out s f Z J.out).ok) (fun s f=>(u.out s f Z J.out).x) bw dz cH.out (fun s f=>⟨(u.out s f Z J.out).pos,(u.out s f Z J.out).le⟩) c4.out cE.out cu.out d2 ds bk.out);rw[al.out,aT]at b4;obtain⟨F,dk⟩:∃F,Hid (pP b w T r d OM V BV=F):=⟨_,rfl⟩
      rw[dk.out]at b4 a;obtain⟨⟨N,s1,m⟩,-⟩:=H.out Z eB.out;have v0:Z.cell? ⟨w8.heap.size,0,none⟩=some (.slice hv.ao V.length hv.cap):=by rw[aa B8];rfl
      have v1:Z.cell? ⟨w8.heap.size,1,none⟩=some (.slice G.ao B.length G.cap):=by rw[aa B8];rfl
      have v2:=ae B8;have ea:Hid _:=B8;have en:Hid _:=em.out.Vb E;have cz:Hid _:=aT;clear k8 E nv nb dt B8 ap a7 aT
      go_upto_region 22 with (go_at_call 178;refine QU b4.out ?_;rintro e w9 ⟨rfl,k9⟩)
      have a2:Hid _:=J.out.trans k9
      cases bj:(F==0)
      ·rw[QW bj]at a
       go_wp2;go_ret2;rw[a.out];exact qy rfl bj rfl a2.out
      ·rw[QT (by rw[bj];simp)]at a
       have e1:F=0:=by simpa using bj
       subst e1;have a3:Hid _:=(CN V hv.ao hv.cap B G.ao G.cap X h2.ao h2.cap w9 (ge.Vb c4.out k9) (cm.Vb cE.out k9) (pa.Vb cu.out k9) d2 ds (ge.Vb en.out.own.srcX k9) (by omega) bk.out);rw[cz.out]at a3;have d5:=N0 (B:=BV) cj a5.out;have B9:=k9.get ea.out (by simp);obtain⟨Y,HY⟩:∃Y,Hid (iU V BV X=Y):=⟨_,rfl⟩
       rw[HY.out]at a3 a d5;have v3:w9.cell? ⟨w8.heap.size,0,none⟩=some (.slice hv.ao V.length hv.cap):=by rw[aa B9];rfl
       have v4:w9.cell? ⟨w8.heap.size,1,none⟩=some (.slice G.ao B.length G.cap):=by rw[aa B9];rfl
       have v5:=ae B9;clear k9 v0 v1 v2 N s1 m
       by_cases az:32<Y.length
       ·rw[QW az]at a
        have aS:(32:Int)<(Y.length:Int):=by omega
        go_wp2_with (go_at_call 179;refine QU a3.out ?_;rintro e e4 ⟨cf,rfl,U⟩;have ad:Hid _:=a2.out.trans U.kept;clear U);go_ret2;rw[a.out];exact qy rfl rfl rfl ad.out
       ·rw[QT az]at a
        have aS:¬(32:Int)<(Y.length:Int):=by omega
        go_wp2_with (go_at_call 179;refine QU a3.out ?_;rintro e e4 ⟨cf,rfl,U⟩;have ad:Hid _:=a2.out.trans U.kept;have bv:Hid _:=U;clear U);go_ret2;rw[a.out];exact⟨⟨cf.ao,cf.cap,Y⟩,rfl,rfl,fun _=>bv.out.sh d5 (by omega),QV (fun q o e=>Q3 a2.out.size (bv.out.far q (KN e))),ad.out⟩
structure ik where
 label:ByteArray
 Vc:Int
 why:Int
 file:ByteArray
 line:Int
 col:Int
def jJ(r:ik):List Value:=[.string r.label,.int .i64 r.Vc,.int .i64 r.why,.string r.file,.int .i64 r.line,.int .i64 r.col]
theorem xf(r:ik):(jJ r).length=6:=rfl
def xt(T:List Tk)(S:List Sm)(a:Nat)(P:List dj)(l:ByteArray)(t:Tk)(M:List (List ByteArray)):ik :=
 if(dS P (P.length-1)==0)=false then⟨l,2,11,t.file,t.line,t.col⟩
 else if oc (cI T S a) (M.getD (P.length-1) [])=false then⟨l,2,12,t.file,t.line,t.col⟩ else⟨l,4,0,⟨#[]⟩,0,0⟩
def po(T:List Tk)(S:List Sm)(a:Nat)(P:List dj)(l:ByteArray)(t:Tk):Nat->Nat->List (List ByteArray)->ik
 | 0,_,M=>xt T S a P l t M
 | n+1,i,M=>if((ui T S a P i M).2==0)=false then⟨l,2,(ui T S a P i M).2,(bO P i).file,(bO P i).line,(bO P i).col⟩ else po T S a P l t n (i+1) (M++[(ui T S a P i M).1])
def mR(T:List Tk)(S:List Sm)(a:Nat)(p:jS)(t:Tk):ik :=
 if(p.why==0)=false then⟨bG T (au S a),2,p.why,p.file,p.line,p.col⟩
 else if 0<=ic p.st then⟨bG T (au S a),3,p.why,(bO p.st (ic p.st).toNat).file,(bO p.st (ic p.st).toNat).line,(bO p.st (ic p.st).toNat).col⟩
 else po T S a p.st (bG T (au S a)) t p.st.length 0 []
theorem ob{o p q:Value}(h:f.heap[H]?=some (.cells #[I,M,g,o,p,q] 38 (0,0)))(a b c d e i:Value) :
  (f.setCell ⟨H,0,none⟩ a).cell? ⟨H,0,none⟩=some a/\((f.setCell ⟨H,0,none⟩ a).setCell ⟨H,1,none⟩ b).cell? ⟨H,1,none⟩=some b/\(((f.setCell ⟨H,0,none⟩ a).setCell ⟨H,1,none⟩ b).setCell ⟨H,2,none⟩ c).cell? ⟨H,2,none⟩=some c/\((((f.setCell ⟨H,0,none⟩ a).setCell ⟨H,1,none⟩ b).setCell ⟨H,2,none⟩ c).setCell ⟨H,3,none⟩ d).cell? ⟨H,3,none⟩=some d /\
  (((((f.setCell ⟨H,0,none⟩ a).setCell ⟨H,1,none⟩ b).setCell ⟨H,2,none⟩ c).setCell ⟨H,3,none⟩ d).setCell ⟨H,4,none⟩ e).cell? ⟨H,4,none⟩=some e/\((((((f.setCell ⟨H,0,none⟩ a).setCell ⟨H,1,none⟩ b).setCell ⟨H,2,none⟩ c).setCell ⟨H,3,none⟩ d).setCell ⟨H,4,none⟩ e).setCell ⟨H,5,none⟩ i).cell? ⟨H,5,none⟩=some i:=by
 have j:=ah h 0 a;have k:=ah j 1 b;have l:=ah k 2 c;have m:=ah l 3 d;have n:=ah m 4 e;have r:=ah n 5 i;exact⟨by rw[aa j];rfl,by rw[aa k];rfl,by rw[aa l];rfl,by rw[aa m];rfl,by rw[aa n];rfl,by rw[aa r];rfl⟩
theorem dZ{r:ik}(h:f.heap[H]?=some (.cells (jJ r).toArray 38 (0,0))) :
  (f.cell? ⟨H,0,none⟩=some (.string r.label)/\f.cell? ⟨H,1,none⟩=some (.int .i64 r.Vc)/\f.cell? ⟨H,2,none⟩=some (.int .i64 r.why)/\f.cell? ⟨H,3,none⟩=some (.string r.file)/\f.cell? ⟨H,4,none⟩=some (.int .i64 r.line)/\f.cell? ⟨H,5,none⟩=some (.int .i64 r.col)) /\
  (f.frozen? ⟨H,0,none⟩=false/\f.frozen? ⟨H,1,none⟩=false/\f.frozen? ⟨H,2,none⟩=false/\f.frozen? ⟨H,3,none⟩=false/\f.frozen? ⟨H,4,none⟩=false/\f.frozen? ⟨H,5,none⟩=false)/\H<f.heap.size:=by
 refine⟨⟨?_,?_,?_,?_,?_,?_⟩,⟨am h 0,am h 1,am h 2,am h 3,am h 4,am h 5⟩,ae h⟩
 all_goals (rw[aa h];rfl)
def N8:ik:=⟨⟨#[]⟩,0,0,⟨#[]⟩,0,0⟩
def Ks(w:World)(r:ik)(e:Ending)(w':World):Prop:=e=.returned (.agg (jJ r).toArray)/\ab [] w w'
structure Kq(T:List Tk)(S:List Sm)(a:Nat)(p:jS):Prop where
 le:p.st.length<=100000000
 nd:M0 p.st
 st:p.why=0->0<p.st.length/\∀i,i<p.st.length->(bO p.st i).ref≠-1->Kv T S a p.st i
structure A8(w wr:World)(p:jS)(hp:Hd)(r:ik):Prop where
 e:wr.heap[w.heap.size]?=some (.cells #[.slice hp.ao p.st.length hp.cap,.int .i64 p.why,.string p.file,.int .i64 p.line,.int .i64 p.col] 122 (0,0))
 z:wr.heap[w.heap.size+1]?=some (.cells (jJ N8).toArray 38 (0,0))
 r:wr.heap[w.heap.size+2]?=some (.cells (jJ r).toArray 38 (0,0))
 kept:ab [] w wr
theorem A8.Vb{r:ik}(a:A8 f x y9 S r)(k:ab [] x yu):A8 f yu y9 S r:=⟨k.get a.e (by simp),k.get a.z (by simp),k.get a.r (by simp),a.kept.trans k⟩
theorem A8.set{r r':ik}(a:A8 f x y9 S r)(i:Nat)(v:Value)(h:(jJ r).set i v=jJ r'):A8 f (x.setCell ⟨f.heap.size+2,i,none⟩ v) y9 S r':=by
 have k:ab [f.heap.size+2] x (x.setCell ⟨f.heap.size+2,i,none⟩ v):=(ab.refl _ _).setCell (Q1 (by simp)) _;refine⟨k.get a.e (by simp),k.get a.z (by simp),?_,a.kept.setCell (QV (by simp)) _⟩;rw[ah a.r,<-h];simp
theorem A8.prf{r:ik}(a:A8 f x y9 S r):x.cell? ⟨f.heap.size,0,none⟩=some (.slice S.ao y9.st.length S.cap)/\x.cell? ⟨f.heap.size,1,none⟩=some (.int .i64 y9.why)/\x.cell? ⟨f.heap.size,2,none⟩=some (.string y9.file)/\x.cell? ⟨f.heap.size,3,none⟩=some (.int .i64 y9.line)/\x.cell? ⟨f.heap.size,4,none⟩=some (.int .i64 y9.col)/\f.heap.size<x.heap.size :=
 ⟨by rw[aa a.e];rfl,by rw[aa a.e];rfl,by rw[aa a.e];rfl,by rw[aa a.e];rfl,by rw[aa a.e];rfl,ae a.e⟩
theorem Qi(h:oo f k):∃q o,k.ao=some ⟨q,o,none⟩/\q<f.heap.size:=by
 obtain⟨g,e,a,-⟩:=h.x 0 _ (mm k.L 0 h.pos);exact⟨g,0,e,a⟩
theorem Ms(g:bt f x S a)(b:oo f k)(n:∀q o,k.ao=some ⟨q,o,none⟩->S.blk≠some q):oo x k:=by
 refine⟨⟨fun j l h=>?_,b.ok.nil,b.ok.le⟩,fun j l h=>?_,b.pos,b.le⟩
 ·obtain⟨q,o,e,d,c⟩:=b.ok.src j l h
  exact⟨q,o,e,QX d g.kept.size,by rw[Q6 (g.kept.block q d (fun i=>n q o e (aN i)))];exact c⟩
 ·obtain⟨q,e,d,c⟩:=b.x j l h
  exact⟨q,e,QX d g.kept.size,by rw[Q6 (g.kept.block q d (fun i=>n q 0 e (aN i)))];exact c⟩
theorem Ob(g:bt f x S a)(d:∀k∈yr,oo f k)(n:∀k∈yr,∀q o,k.ao=some ⟨q,o,none⟩->S.blk≠some q)(b:oo f k)(m:∀q o,k.ao=some ⟨q,o,none⟩->S.blk≠some q):∀t∈yr++[k],oo x t:=fun t c=>by
 rcases Rr.1 c with c | c
 ·exact Ms g (d t c) (n t c)
 ·rw[Q9.1 c];exact Ms g b m
theorem M8(g:bt f x S a)(l:∀k∈yr,oo f k)(n:∀k∈yr,∀q o,k.ao=some ⟨q,o,none⟩->S.blk≠some q)(b:oo f k)(m:∀q o,k.ao=some ⟨q,o,none⟩->S.blk≠some q):∀t∈yr++[k],∀q o,t.ao=some ⟨q,o,none⟩->a.blk≠some q:=fun t c q o e i=>by
 have d:oo f t/\S.blk≠some q:=by
  rcases Rr.1 c with c | c
  ·exact⟨l t c,n t c q o e⟩
  ·rw[Q9.1 c]at e ⊢;exact⟨b,m q o e⟩
 rcases g.blk with h | ⟨u,h,p⟩
 ·exact d.2 (by rw[<-h];exact i)
 ·rw[h]at i;cases i
  obtain⟨v,s,j,r⟩:=Qi d.1;rw[e]at j
  cases j
  omega
theorem AL(p:jS)(U:Hd)(c:World)(hD:fz c y b D L w i n)(ok:nK b w T)(hB:Kk b w T)(ck:OL b w T)(hn:T<w.length)(hE:cU b (au w T).h)(dT:(au w T).a<b.length)(d1:(au w T).z=l+1)(d4:l<b.length)(hP:cm c U.ao 6 kV p.st)(a6:Kq b w T p) :
  Calls prog 89 #[.pointer (some ⟨y,0,none⟩),.int .i64 T,.agg #[.slice U.ao p.st.length U.cap,.int .i64 p.why,.string p.file,.int .i64 p.line,.int .i64 p.col]] c fun e w'=>Ks c (mR b w T p (b.getD l jf)) e w':=by
 obtain⟨W,HW⟩:∃W,Hid (((c.alloc (.cells #[.slice U.ao p.st.length U.cap,.int .i64 p.why,.string p.file,.int .i64 p.line,.int .i64 p.col] 122)).alloc (.cells #[.string ⟨#[]⟩,.int .i64 0,.int .i64 0,.string ⟨#[]⟩,.int .i64 0,.int .i64 0] 38)).alloc (.cells #[.string ⟨#[]⟩,.int .i64 2,.int .i64 p.why,.string p.file,.int .i64 p.line,.int .i64 p.col] 38)=W):=⟨_,rfl⟩
 have V0:A8 c W p U ⟨⟨#[]⟩,2,p.why,p.file,p.line,p.col⟩:=by
  obtain⟨W1,a2⟩:∃W1,W1=c.alloc (.cells #[.slice U.ao p.st.length U.cap,.int .i64 p.why,.string p.file,.int .i64 p.line,.int .i64 p.col] 122):=⟨_,rfl⟩
  obtain⟨W2,a3⟩:∃W2,W2=W1.alloc (.cells #[.string ⟨#[]⟩,.int .i64 0,.int .i64 0,.string ⟨#[]⟩,.int .i64 0,.int .i64 0] 38):=⟨_,rfl⟩
  have S:W1.heap.size=c.heap.size+1:=by rw[a2];simp
  have Y:W2.heap.size=c.heap.size+2:=by rw[a3];simp[S]
  have k0:ab [] c W1:=by rw[a2];exact(ab.refl [] _).alloc _
  have k1:ab [] W1 W2:=by rw[a3];exact(ab.refl [] _).alloc _
  have K:W1.heap[c.heap.size]?=some (.cells #[.slice U.ao p.st.length U.cap,.int .i64 p.why,.string p.file,.int .i64 p.line,.int .i64 p.col] 122 (0,0)):=by rw[a2];exact QS _ _
  have M:W2.heap[c.heap.size+1]?=some (.cells (jJ N8).toArray 38 (0,0)):=by rw[a3,<-S];exact QS _ _
  rw[<-HW.out,<-a2,<-a3];have k2:ab [] W2 (W2.alloc (.cells #[.string ⟨#[]⟩,.int .i64 2,.int .i64 p.why,.string p.file,.int .i64 p.line,.int .i64 p.col] 38)):=(ab.refl [] _).alloc _;exact⟨k2.get (k1.get K (by simp)) (by simp),k2.get M (by simp),by rw[<-Y];exact QS _ _,(k0.trans k1).trans k2⟩
 have a0:Hid _:=V0;have HD:Hid _:=hD;have cH:Hid _:=ok;have HP:Hid _:=hP;have d8:=ok.sm;have d9:=ok.tm;have cA:Hid _:=hB;have c6:Hid _:=ck;have cP:Hid _:=hE;have a1:=a6.le;have bj:Hid _:=a6.nd;have bo:Hid _:=a6.st
 have b5:Hid (Calls prog 87 #[.pointer (some ⟨y,0,none⟩),.int .i64 T] W fun e w'=>e=.returned (.string (bG b (au w T)))/\ab [] W w'):=by
  have:=nQ y T b D L w i n W (hD.Vb V0.kept) hn (by rw[bM w T hn];exact dT);rw[bM w T hn]at this;exact this
 have ad:Hid (mR b w T p (b.getD l jf)=if(p.why==0)=false then⟨bG b (au w T),2,p.why,p.file,p.line,p.col⟩
  else if 0<=ic p.st then⟨bG b (au w T),3,p.why,(bO p.st (ic p.st).toNat).file,(bO p.st (ic p.st).toNat).line,(bO p.st (ic p.st).toNat).col⟩
  else po b w T p.st (bG b (au w T)) (b.getD l jf) p.st.length 0 []):=rfl
 have cc:Hid (∀J:World,ab [] c J->∃gT gs,D=some ⟨gT,0,none⟩/\i=some ⟨gs,0,none⟩/\gT<J.heap.size/\gs<J.heap.size/\y<J.heap.size/\J.cell? ⟨y,0,none⟩=some (.slice D b.length L)/\J.cell? ⟨y,1,none⟩=some (.slice i w.length n)/\J.cell? ⟨gs,T*4+1,none⟩=some (.int .i64 ((l:Int)+1))/\J.cell? ⟨gT,l*5+2,none⟩=some (.string (b.getD l jf).file)/\J.cell? ⟨gT,l*5+3,none⟩=some (.int .i64 (b.getD l jf).line)/\J.cell? ⟨gT,l*5+4,none⟩=some (.int .i64 (b.getD l jf).col)):=fun J kx=>by
  have hd:=fz.Vb HD.out kx;obtain⟨c0,c1,hb⟩:=hd.cells;obtain⟨gs,N,bw,-,q1,-,-⟩:=hd.s.2 T w[T] (QP hn);rw[bM w T hn,d1,show((l+1:Nat):Int)=(l:Int)+1 by omega]at q1;obtain⟨gT,O,bv,-,-,t2,t3,t4⟩:=hd.t.2 l _ (iw b l d4);exact⟨gT,gs,O,N,bv,bw,hb,c0,c1,q1,t2,t3,t4⟩
 have bf:Hid (∀J,ab [] c J->Calls prog 130 #[.agg #[.slice U.ao p.st.length U.cap,.int .i64 p.why,.string p.file,.int .i64 p.line,.int .i64 p.col]] J fun e w'=>e=.returned (.int .i64 (ic p.st))/\ab [] J w'):=fun J kx=>Is p.st U.ao U.cap p.why p.file p.line p.col J (hP.Vb kx) a1
 have co:=Ei p.st;obtain⟨iL,dz,cx,cy,cz⟩:=Re Ej;clear hD ok hB ck hE hP a6 V0;obtain⟨m,Hl⟩:∃m,Hid (bG b (au w T)=m):=⟨_,rfl⟩
 rw[Hl.out]at b5 ad;obtain⟨V,c7⟩:∃V,Hid (mR b w T p (b.getD l jf)=V):=⟨_,rfl⟩
 rw[c7.out]at ad ⊢;obtain⟨P,bz,pf,pl,pc⟩:=p;simp only at ad bf co a1 bj bo HP;obtain⟨K,M,B,N,O,e5⟩:=a0.out.prf;obtain⟨⟨C,E,F,G,H,I⟩,⟨f0,f1,f2,f3,f4,f5⟩,j⟩:=dZ a0.out.r;obtain⟨⟨z0,S,Y,z3,z4,z5⟩,⟨y0,y1,y2,y3,y4,y5⟩,f⟩:=dZ a0.out.z;simp only at C E F G H I;go_enter func89,ntmps89
 go_upto_region 2 with fail
 rw[HW.out]
 go_upto_region 3 with (go_at_call 87;refine QU b5.out ?_;rintro e w1 ⟨rfl,k1⟩;have V1:=a0.out.Vb k1;obtain⟨⟨u0,-⟩,⟨u1,-⟩,u2⟩:=dZ V1.r)
 have ai:Hid (A8 c (w1.setCell ⟨c.heap.size+2,0,none⟩ (.string m)) ⟨P,bz,pf,pl,pc⟩ U ⟨m,2,bz,pf,pl,pc⟩):=V1.set 0 (.string m) rfl;obtain⟨X2,ch⟩:∃X2,Hid (w1.setCell ⟨c.heap.size+2,0,none⟩ (.string m)=X2):=⟨_,rfl⟩
 rw[ch.out]at ai ⊢;clear V1 u0 u1 u2 k1 ch;clear K M B N O e5 C E F G H I f0 f1 f2 f3 f4 f5 j z0 S Y z3 z4 z5 y0 y1 y2 y3 y4 y5 f;obtain⟨K,M,B,N,O,e5⟩:=ai.out.prf;obtain⟨⟨C,E,F,G,H,I⟩,⟨f0,f1,f2,f3,f4,f5⟩,j⟩:=dZ ai.out.r;obtain⟨⟨z0,S,Y,z3,z4,z5⟩,⟨y0,y1,y2,y3,y4,y5⟩,f⟩:=dZ ai.out.z;simp only at C E F G H I;simp only at K M B N O
 cases hy:(bz==0)
 ·rw[hy,QW rfl]at ad
  have HX:Hid (V=⟨m,2,bz,pf,pl,pc⟩):=ad.out;go_wp2;obtain⟨x0,x1,x2,x3,x4,x5⟩:=ob ai.out.z (.string m) (.int .i64 2) (.int .i64 bz) (.string pf) (.int .i64 pl) (.int .i64 pc);exact QY (v:=.agg #[.string m,.int .i64 2,.int .i64 bz,.string pf,.int .i64 pl,.int .i64 pc]) (by simp[results,results89,go_sem,x0,x1,x2,x3,x4,x5]) rfl ⟨by rw[HX.out];rfl,(((((ai.out.kept.setCell (QV (by simp)) _).setCell (QV (by simp)) _).setCell (QV (by simp)) _).setCell (QV (by simp)) _).setCell (QV (by simp)) _).setCell (QV (by simp)) _⟩
 ·rw[hy,QT (by simp)]at ad
  have d3:bz=0:=by simpa using hy
  subst d3;have b4:Hid _:=bf.out X2 ai.out.kept
  go_upto_region 6 with (go_at_call 130;refine QU b4.out ?_;rintro e w3 ⟨rfl,k3⟩)
  have an:Hid _:=ai.out.Vb k3;clear k3;clear K M B N O e5 C E F G H I f0 f1 f2 f3 f4 f5 j z0 S Y z3 z4 z5 y0 y1 y2 y3 y4 y5 f;obtain⟨K,M,B,N,O,e5⟩:=an.out.prf;obtain⟨⟨C,E,F,G,H,I⟩,⟨f0,f1,f2,f3,f4,f5⟩,j⟩:=dZ an.out.r;obtain⟨⟨z0,S,Y,z3,z4,z5⟩,⟨y0,y1,y2,y3,y4,y5⟩,f⟩:=dZ an.out.z;simp only at C E F G H I;simp only at K M B N O
  rcases co with ⟨hh,cp⟩ | ⟨k,hk,hh⟩
  ·rw[hh,QT (by omega)]at ad
   rw[hh];obtain⟨d7,cu⟩:=bo.out (by trivial);have c2:Hid (∀u,u<P.length->Kv b w T P u):=fun u hi=>cu u hi (cp u hi)
   have cE:Hid (gw w3 w3 ⟨none,0⟩ (lA [])):=⟨QZ _ _ _ _,(by intro k hk;cases hk),ab.refl _ _⟩;have ba:Hid (po b w T P m (b.getD l jf) (P.length-0) 0 (([]:List Sl).map (·.L))=V):=ad.out.symm;obtain⟨tz,df⟩:∃tz,Hid (b.getD l jf=tz):=⟨_,rfl⟩
   rw[df.out]at cc ba;clear cu cp hh ad bo bf b4;go_wp2;clear K M B N O e5 C E F G H I f0 f1 f2 f3 f4 f5 j z0 S Y z3 z4 z5 y0 y1 y2 y3 y4 y5 f
   go_loopg [9,10] P.length (fun g o iv wr=>∃(u:Nat) (h:Hd) (A:List Sl),u<=P.length/\g=P.length-u/\o=.slice h.ao A.length h.cap/\iv=.int .i64 u/\Hid (A.length=u)/\Hid (∀s∈A,oo wr s)/\Hid (∀s∈A,∀q o,s.ao=some ⟨q,o,none⟩->h.blk≠some q)/\Hid (po b w T P m tz (P.length-u) u (A.map (·.L))=V)/\Hid (gw w3 wr h (lA A)))
   case atStart=>exact⟨0,⟨none,0⟩,[],by omega,rfl,rfl,rfl,rfl,(fun s hs=>by cases hs),(fun s hs=>by cases hs),ba,cE⟩
   case round =>
    obtain⟨u,h,A,hi,hg,rfl,rfl,ar,bd,be,HG,ax⟩:=hrel;have ap:Hid _:=an.out.Vb ax.out.kept;have aT:Hid _:=ap.out.kept;obtain⟨K,M,B,N,O,e5⟩:=ap.out.prf;obtain⟨⟨C,E,F,G,H,I⟩,⟨f0,f1,f2,f3,f4,f5⟩,j⟩:=dZ ap.out.r;obtain⟨⟨z0,S,Y,z3,z4,z5⟩,⟨y0,y1,y2,y3,y4,y5⟩,f⟩:=dZ ap.out.z;simp only at C E F G H I;simp only at K M B N O
    by_cases a5:u<P.length
    ·have ea:(u:Int)<(P.length:Int):=by omega
     have bl:Hid _:=JL y T u b D L w i n P U.ao U.cap 0 pf pl pc A h.ao h.cap wr (fz.Vb HD.out aT.out) cH.out cA.out c6.out hn (cm.Vb HP.out aT.out) a1 bj.out a5 (c2.out u a5) (ax.out.own.srcG vw) bd.out ar.out;obtain⟨d,hd⟩:∃d,P.length-u=d+1:=⟨P.length-u-1,by omega⟩
     have ag:Hid (po b w T P m tz (d+1) u (A.map (·.L))=V):=by rw[<-hd];exact HG
     rw[po]at ag;have c9:Hid (P.length-(u+1)=d):=by show _=_;omega
     clear hd HG;obtain⟨SR,cX⟩:∃SR,Hid (ui b w T P u (A.map (·.L))=SR):=⟨_,rfl⟩
     rw[cX.out]at bl ag;obtain⟨sE,sW⟩:=SR;simp only at ag
     go_upto_region 15 with (go_at_call 131;refine QU bl.out ?_;rintro e w4 ⟨s,rfl,cs,bc,ct,k4⟩)
     have Z:Hid _:=ap.out.Vb k4;have cf:Hid _:=ax.out.Vb k4;have a7:Hid (∀s∈A,oo w4 s):=fun s hs=>(bd.out s hs).Vb k4
     have cb:Hid (s.L=sE):=cs;have cR:Hid ((sW==0)=true->oo w4 s):=bc
     have ca:Hid (∀q o,s.ao=some ⟨q,o,none⟩->h.blk≠some q):=fun q o e hb=>by
      rcases ct with hm | hf
      ·exact be.out s hm q o e hb
      ·have:=hf q o e
       have:=ax.out.own.lt hb;omega
     clear cs bc ct k4 bl;clear K M B N O e5 C E F G H I f0 f1 f2 f3 f4 f5 j z0 S Y z3 z4 z5 y0 y1 y2 y3 y4 y5 f;obtain⟨K,M,B,N,O,e5⟩:=Z.out.prf;obtain⟨⟨C,E,F,G,H,I⟩,⟨f0,f1,f2,f3,f4,f5⟩,j⟩:=dZ Z.out.r;obtain⟨⟨z0,S,Y,z3,z4,z5⟩,⟨y0,y1,y2,y3,y4,y5⟩,f⟩:=dZ Z.out.z;simp only at C E F G H I;simp only at K M B N O
     cases hw:(sW==0)
     ·rw[hw,QW rfl]at ag
      have HX:Hid (V=⟨m,2,sW,(bO P u).file,(bO P u).line,(bO P u).col⟩):=ag.out.symm;obtain⟨gP,az,aS,-,-,-,q3,q4,q5⟩:=cm.step (cm.Vb HP.out Z.out.kept) u a5
      have HQ:Hid (∀J:World,ab [] c J->gP<J.heap.size/\J.cell? ⟨gP,u*6+3,none⟩=some (.string (bO P u).file)/\J.cell? ⟨gP,u*6+4,none⟩=some (.int .i64 (bO P u).line)/\J.cell? ⟨gP,u*6+5,none⟩=some (.int .i64 (bO P u).col)):=fun J kx=>by
       obtain⟨g2,B,h2,-,-,-,c3,c4,c5⟩:=cm.step (cm.Vb HP.out kx) u a5;rw[az]at B
       cases B
       exact⟨h2,c3,c4,c5⟩
      generalize (bO P u).file=sf at *;generalize (bO P u).line=sl at *;generalize (bO P u).col=sc at *;clear aS q3 q4 q5
      go_upto_region 17 with fail
      have Q:Hid (A8 c (w4.setCell ⟨c.heap.size+2,2,none⟩ (.int .i64 sW)) ⟨P,0,pf,pl,pc⟩ U ⟨m,2,sW,pf,pl,pc⟩):=Z.out.set 2 (.int .i64 sW) rfl;obtain⟨X4,bp⟩:∃X4,Hid (w4.setCell ⟨c.heap.size+2,2,none⟩ (.int .i64 sW)=X4):=⟨_,rfl⟩
      rw[bp.out]at Q ⊢;clear K M B N O e5 C E F G H I f0 f1 f2 f3 f4 f5 j z0 S Y z3 z4 z5 y0 y1 y2 y3 y4 y5 f;obtain⟨K,M,B,N,O,e5⟩:=Q.out.prf;obtain⟨⟨C,E,F,G,H,I⟩,⟨f0,f1,f2,f3,f4,f5⟩,j⟩:=dZ Q.out.r;obtain⟨⟨z0,S,Y,z3,z4,z5⟩,⟨y0,y1,y2,y3,y4,y5⟩,f⟩:=dZ Q.out.z;simp only at C E F G H I;simp only at K M B N O;obtain⟨aS,q3,q4,q5⟩:=HQ.out X4 Q.out.kept;rw[az]at K
      go_upto_region 18 with fail
      have ac:Hid (A8 c (((X4.setCell ⟨c.heap.size+2,3,none⟩ (.string sf)).setCell ⟨c.heap.size+2,4,none⟩ (.int .i64 sl)).setCell ⟨c.heap.size+2,5,none⟩ (.int .i64 sc)) ⟨P,0,pf,pl,pc⟩ U ⟨m,2,sW,sf,sl,sc⟩):=((Q.out.set (r':=⟨m,2,sW,sf,pl,pc⟩) 3 (.string sf) rfl).set (r':=⟨m,2,sW,sf,sl,pc⟩) 4 (.int .i64 sl) rfl).set 5 (.int .i64 sc) rfl;obtain⟨X5,br⟩:∃X5,Hid (((X4.setCell ⟨c.heap.size+2,3,none⟩ (.string sf)).setCell ⟨c.heap.size+2,4,none⟩ (.int .i64 sl)).setCell ⟨c.heap.size+2,5,none⟩ (.int .i64 sc)=X5):=⟨_,rfl⟩
      rw[br.out]at ac ⊢;clear K M B N O e5 C E F G H I f0 f1 f2 f3 f4 f5 j z0 S Y z3 z4 z5 y0 y1 y2 y3 y4 y5 f;obtain⟨K,M,B,N,O,e5⟩:=ac.out.prf;obtain⟨⟨C,E,F,G,H,I⟩,⟨f0,f1,f2,f3,f4,f5⟩,j⟩:=dZ ac.out.r;obtain⟨⟨z0,S,Y,z3,z4,z5⟩,⟨y0,y1,y2,y3,y4,y5⟩,f⟩:=dZ ac.out.z;simp only at C E F G H I;go_wp2;obtain⟨x0,x1,x2,x3,x4,x5⟩:=ob ac.out.z (.string m) (.int .i64 2) (.int .i64 sW) (.string sf) (.int .i64 sl) (.int .i64 sc);exact QY (v:=.agg #[.string m,.int .i64 2,.int .i64 sW,.string sf,.int .i64 sl,.int .i64 sc]) (by simp[results,results89,go_sem,x0,x1,x2,x3,x4,x5]) rfl ⟨by rw[HX.out];rfl,(((((ac.out.kept.setCell (QV (by simp)) _).setCell (QV (by simp)) _).setCell (QV (by simp)) _).setCell (QV (by simp)) _).setCell (QV (by simp)) _).setCell (QV (by simp)) _⟩
     ·rw[hw,QT (by simp)]at ag
      have d2:sW=0:=by simpa using hw
      subst d2;have b6:Hid _:=cR.out rfl;rw[<-cb.out]at ag;have cF:Hid (([.slice s.ao sE.length s.cap]:List Value)=Ff s):=by show _=_;unfold Ff;rw[cb.out]
      have dp:=cf.out.own;have cL:Hid ((lA A).n<=900000000):=by show A.length<=_;rw[ar.out];omega
      go_wp2_with (at_builtin;refine bN _ rfl (.tmp 71) (.tmp 73) 218 rfl iL (.slice none 0 0) 24 h (lA A) [.slice s.ao sE.length s.cap] underlying218 dz cx cy cz rfl Rc rfl dp cL.out (by omega) rfl rfl (by simp[Value.oneCell']) ?_;intro h7 w7 bx a4;rw[cF.out,qw]at bx;have cB:Hid _:=cf.out.Vl a4 bx;have bT:Hid _:=Ob a4 a7.out be.out b6.out ca.out;have b0:Hid _:=M8 a4 a7.out be.out b6.out ca.out;clear bx a4)
      go_roundg (P.length-(u+1))
      case measure=>omega
      case rel=>exact⟨u+1,h7,A++[s],by omega,rfl,by simp[lA,kU],by go_num,by show _=_;rw[Q0,ar.out];rfl,bT,b0,by rw[c9.out,Ry];exact ag,cB⟩
    ·obtain⟨q,hq⟩:∃q,P.length=q+1:=⟨P.length-1,by omega⟩
     have d5:¬(u:Int)<(P.length:Int):=by omega
     have eh:IntKind.i64.wrap ((P.length:Int)-1)=(q:Int):=by rw[R9];omega
     have ag:Hid (xt b w T P m tz (A.map (·.L))=V):=by have:=HG.out;rw[show P.length-u=0 by omega,po]at this;exact this
     have af:Hid (xt b w T P m tz (A.map (·.L))=if(dS P q==0)=false then⟨m,2,11,tz.file,tz.line,tz.col⟩ else if oc (cI b w T) (fQ A q).L=false then⟨m,2,12,tz.file,tz.line,tz.col⟩ else⟨m,4,0,⟨#[]⟩,0,0⟩):=by show _=_;unfold xt;rw[show P.length-1=q by omega,wF A q (by rw[ar.out];omega)]
     have cq:q<A.length:=by rw[ar.out];omega
     have d6:(q:Int)<(A.length:Int):=by omega
     have d0:q<P.length:=by omega
     have eg:(0:Int)<=(q:Int):=by omega
     clear hq HG;rw[ag.out]at af;have b3:Hid _:=(tJ P U.ao U.cap 0 pf pl pc a1 bj.out (q+1) q wr (by omega) d0 (cm.Vb HP.out aT.out));generalize dS P q=bg at *
     have b2:Hid (∀J,ab [] c J->Calls prog 72 #[.pointer (some ⟨y,0,none⟩),.int .i64 (T:Int)] J fun e w'=>∃h',e=.returned (.slice h'.ao (cI b w T).length h'.cap)/\vj J w' h' (cI b w T)):=fun J kx=>by
      have:=kD y T b D L w i n J (fz.Vb HD.out kx) hn (by omega) (by rw[bM w T hn];exact cP.out);rw[bM w T hn]at this;exact this
     have ds:(cI b w T).length<=b.length:=kg b _;obtain⟨X,c8⟩:∃X,Hid (cI b w T=X):=⟨_,rfl⟩
     rw[c8.out]at b2 ds af
     go_upto_region 22 with (go_at_call 132;refine QU b3.out ?_;rintro e w4 ⟨rfl,k4⟩)
     have b1:Hid _:=b2.out w4 (aT.out.trans k4)
     go_upto_region 23 with (go_at_call 72;refine QU b1.out ?_;rintro e w5 ⟨h5,rfl,x5⟩)
     have k5:=k4.trans x5.kept;have Q:Hid _:=ap.out.Vb k5;obtain⟨gA,dl,dv,dk⟩:=cm.sl ((ax.out.Vb k5).own.srcG vw) q cq;have cV:Hid _:=(bd.out (fQ A q) (jK A q cq)).Vb k5;have bk:Hid _:=(C0 X (fQ A q).L h5.ao (fQ A q).ao h5.cap (fQ A q).cap w5 x5.own.srcX cV.out.x (by omega));generalize fQ A q=s at *;obtain⟨sm,db⟩:∃sm,Hid (oc X s.L=sm):=⟨_,rfl⟩
     rw[db.out]at bk af;rw[dl];clear k4 k5 x5 b1 b3;clear K M B N O e5 C E F G H I f0 f1 f2 f3 f4 f5 j z0 S Y z3 z4 z5 y0 y1 y2 y3 y4 y5 f
     go_upto_region 24 with (go_at_call 133;refine QU bk.out ?_;rintro e w6 ⟨rfl,k6⟩)
     have ac:Hid _:=Q.out.Vb k6;clear k6 dk dv bk;obtain⟨K,M,B,N,O,e5⟩:=ac.out.prf;obtain⟨⟨C,E,F,G,H,I⟩,⟨f0,f1,f2,f3,f4,f5⟩,j⟩:=dZ ac.out.r;obtain⟨⟨z0,S,Y,z3,z4,z5⟩,⟨y0,y1,y2,y3,y4,y5⟩,f⟩:=dZ ac.out.z;simp only at C E F G H I;simp only at K M B N O;obtain⟨gT,gs,rfl,rfl,bv,bw,dt,c0,c1,q1,t2,t3,t4⟩:=cc.out w6 ac.out.kept;have ef:(T:Int)<(w.length:Int):=by omega
     have ei:(l:Int)<(b.length:Int):=by omega
     obtain⟨ts,tr,tf,tl,tc⟩:=tz;simp only at t2 t3 t4 af;have al:Hid (A8 c (((w6.setCell ⟨c.heap.size+2,3,none⟩ (.string tf)).setCell ⟨c.heap.size+2,4,none⟩ (.int .i64 tl)).setCell ⟨c.heap.size+2,5,none⟩ (.int .i64 tc)).drew ⟨P,0,pf,pl,pc⟩ U ⟨m,2,0,tf,tl,tc⟩):=(((ac.out.set (r':=⟨m,2,0,tf,pl,pc⟩) 3 (.string tf) rfl).set (r':=⟨m,2,0,tf,tl,pc⟩) 4 (.int .i64 tl) rfl).set (r':=⟨m,2,0,tf,tl,tc⟩) 5 (.int .i64 tc) rfl).Vb (ab.refl [] _).drew
     go_region
     obtain⟨X7,cj⟩:∃X7,Hid ((((w6.setCell ⟨c.heap.size+2,3,none⟩ (.string tf)).setCell ⟨c.heap.size+2,4,none⟩ (.int .i64 tl)).setCell ⟨c.heap.size+2,5,none⟩ (.int .i64 tc)).drew=X7):=⟨_,rfl⟩
     rw[cj.out]at al ⊢;clear K M B N O e5 C E F G H I f0 f1 f2 f3 f4 f5 j z0 S Y z3 z4 z5 y0 y1 y2 y3 y4 y5 f;clear bv bw dt c0 c1 q1 t2 t3 t4 cj;obtain⟨K,M,B,N,O,e5⟩:=al.out.prf;obtain⟨⟨C,E,F,G,H,I⟩,⟨f0,f1,f2,f3,f4,f5⟩,j⟩:=dZ al.out.r;obtain⟨⟨z0,S,Y,z3,z4,z5⟩,⟨y0,y1,y2,y3,y4,y5⟩,f⟩:=dZ al.out.z;simp only at C E F G H I;simp only at K M B N O
     cases cl:(bg==0)
     ·rw[cl,QW rfl]at af
      have HX:Hid (V=⟨m,2,11,tf,tl,tc⟩):=af.out
      go_upto_region 27 with fail
      have R:Hid (A8 c (X7.setCell ⟨c.heap.size+2,2,none⟩ (.int .i64 11)) ⟨P,0,pf,pl,pc⟩ U ⟨m,2,11,tf,tl,tc⟩):=al.out.set 2 (.int .i64 11) rfl;obtain⟨X8,bs⟩:∃X8,Hid (X7.setCell ⟨c.heap.size+2,2,none⟩ (.int .i64 11)=X8):=⟨_,rfl⟩
      rw[bs.out]at R ⊢;clear K M B N O e5 C E F G H I f0 f1 f2 f3 f4 f5 j z0 S Y z3 z4 z5 y0 y1 y2 y3 y4 y5 f;obtain⟨K,M,B,N,O,e5⟩:=R.out.prf;obtain⟨⟨C,E,F,G,H,I⟩,⟨f0,f1,f2,f3,f4,f5⟩,j⟩:=dZ R.out.r;obtain⟨⟨z0,S,Y,z3,z4,z5⟩,⟨y0,y1,y2,y3,y4,y5⟩,f⟩:=dZ R.out.z;simp only at C E F G H I;go_wp2;obtain⟨x0,x1,x2,x3,x4,x5⟩:=ob R.out.z (.string m) (.int .i64 2) (.int .i64 11) (.string tf) (.int .i64 tl) (.int .i64 tc);exact QY (v:=.agg #[.string m,.int .i64 2,.int .i64 11,.string tf,.int .i64 tl,.int .i64 tc]) (by simp[results,results89,go_sem,x0,x1,x2,x3,x4,x5]) rfl ⟨by rw[HX.out];rfl,(((((R.out.kept.setCell (QV (by simp)) _).setCell (QV (by simp)) _).setCell (QV (by simp)) _).setCell (QV (by simp)) _).setCell (QV (by simp)) _).setCell (QV (by simp)) _⟩
     ·rw[cl,QT (by simp)]at af
      cases sm
      ·rw[QW rfl]at af
       have HX:Hid (V=⟨m,2,12,tf,tl,tc⟩):=af.out
       go_upto_region 30 with fail
       have R:Hid (A8 c (X7.setCell ⟨c.heap.size+2,2,none⟩ (.int .i64 12)) ⟨P,0,pf,pl,pc⟩ U ⟨m,2,12,tf,tl,tc⟩):=al.out.set 2 (.int .i64 12) rfl;obtain⟨X8,bs⟩:∃X8,Hid (X7.setCell ⟨c.heap.size+2,2,none⟩ (.int .i64 12)=X8):=⟨_,rfl⟩
       rw[bs.out]at R ⊢;clear K M B N O e5 C E F G H I f0 f1 f2 f3 f4 f5 j z0 S Y z3 z4 z5 y0 y1 y2 y3 y4 y5 f;obtain⟨K,M,B,N,O,e5⟩:=R.out.prf;obtain⟨⟨C,E,F,G,H,I⟩,⟨f0,f1,f2,f3,f4,f5⟩,j⟩:=dZ R.out.r;obtain⟨⟨z0,S,Y,z3,z4,z5⟩,⟨y0,y1,y2,y3,y4,y5⟩,f⟩:=dZ R.out.z;simp only at C E F G H I;go_wp2;obtain⟨x0,x1,x2,x3,x4,x5⟩:=ob R.out.z (.string m) (.int .i64 2) (.int .i64 12) (.string tf) (.int .i64 tl) (.int .i64 tc);exact QY (v:=.agg #[.string m,.int .i64 2,.int .i64 12,.string tf,.int .i64 tl,.int .i64 tc]) (by simp[results,results89,go_sem,x0,x1,x2,x3,x4,x5]) rfl ⟨by rw[HX.out];rfl,(((((R.out.kept.setCell (QV (by simp)) _).setCell (QV (by simp)) _).setCell (QV (by simp)) _).setCell (QV (by simp)) _).setCell (QV (by simp)) _).setCell (QV (by simp)) _⟩
      ·rw[QT (by simp)]at af
       have HX:Hid (V=⟨m,4,0,⟨#[]⟩,0,0⟩):=af.out;go_wp2;obtain⟨x0,x1,x2,x3,x4,x5⟩:=ob al.out.z (.string m) (.int .i64 4) (.int .i64 0) (.string ⟨#[]⟩) (.int .i64 0) (.int .i64 0);exact QY (v:=.agg #[.string m,.int .i64 4,.int .i64 0,.string ⟨#[]⟩,.int .i64 0,.int .i64 0]) (by simp[results,results89,go_sem,x0,x1,x2,x3,x4,x5]) rfl ⟨by rw[HX.out];rfl,(((((al.out.kept.setCell (QV (by simp)) _).setCell (QV (by simp)) _).setCell (QV (by simp)) _).setCell (QV (by simp)) _).setCell (QV (by simp)) _).setCell (QV (by simp)) _⟩
  ·rw[hh,QW (by omega),Sa]at ad
   rw[hh];have eb:(0:Int)<=(k:Int):=by omega
   have ec:(k:Int)<(P.length:Int):=by omega
   have HX:Hid (V=⟨m,3,0,(bO P k).file,(bO P k).line,(bO P k).col⟩):=ad.out;obtain⟨gP,az,aS,-,-,-,q3,q4,q5⟩:=cm.step (cm.Vb HP.out an.out.kept) k hk
   have HQ:Hid (∀J:World,ab [] c J->gP<J.heap.size/\J.cell? ⟨gP,k*6+3,none⟩=some (.string (bO P k).file)/\J.cell? ⟨gP,k*6+4,none⟩=some (.int .i64 (bO P k).line)/\J.cell? ⟨gP,k*6+5,none⟩=some (.int .i64 (bO P k).col)):=fun J kx=>by
    obtain⟨g2,B,h2,-,-,-,c3,c4,c5⟩:=cm.step (cm.Vb HP.out kx) k hk;rw[az]at B
    cases B
    exact⟨h2,c3,c4,c5⟩
   generalize (bO P k).file=sf at *;generalize (bO P k).line=sl at *;generalize (bO P k).col=sc at *;clear aS q3 q4 q5
   go_upto_region 8 with fail
   have Z:Hid (A8 c (w3.setCell ⟨c.heap.size+2,1,none⟩ (.int .i64 3)) ⟨P,0,pf,pl,pc⟩ U ⟨m,3,0,pf,pl,pc⟩):=an.out.set 1 (.int .i64 3) rfl;obtain⟨X4,bp⟩:∃X4,Hid (w3.setCell ⟨c.heap.size+2,1,none⟩ (.int .i64 3)=X4):=⟨_,rfl⟩
   rw[bp.out]at Z ⊢;clear K M B N O e5 C E F G H I f0 f1 f2 f3 f4 f5 j z0 S Y z3 z4 z5 y0 y1 y2 y3 y4 y5 f;obtain⟨K,M,B,N,O,e5⟩:=Z.out.prf;obtain⟨⟨C,E,F,G,H,I⟩,⟨f0,f1,f2,f3,f4,f5⟩,j⟩:=dZ Z.out.r;obtain⟨⟨z0,S,Y,z3,z4,z5⟩,⟨y0,y1,y2,y3,y4,y5⟩,f⟩:=dZ Z.out.z;simp only at C E F G H I;simp only at K M B N O;obtain⟨aS,q3,q4,q5⟩:=HQ.out X4 Z.out.kept;rw[az]at K
   go_upto_region 9 with fail
   have Q:Hid (A8 c (((X4.setCell ⟨c.heap.size+2,3,none⟩ (.string sf)).setCell ⟨c.heap.size+2,4,none⟩ (.int .i64 sl)).setCell ⟨c.heap.size+2,5,none⟩ (.int .i64 sc)) ⟨P,0,pf,pl,pc⟩ U ⟨m,3,0,sf,sl,sc⟩):=((Z.out.set (r':=⟨m,3,0,sf,pl,pc⟩) 3 (.string sf) rfl).set (r':=⟨m,3,0,sf,sl,pc⟩) 4 (.int .i64 sl) rfl).set 5 (.int .i64 sc) rfl;obtain⟨X5,br⟩:∃X5,Hid (((X4.setCell ⟨c.heap.size+2,3,none⟩ (.string sf)).setCell ⟨c.heap.size+2,4,none⟩ (.int .i64 sl)).setCell ⟨c.heap.size+2,5,none⟩ (.int .i64 sc)=X5):=⟨_,rfl⟩
   rw[br.out]at Q ⊢;clear K M B N O e5 C E F G H I f0 f1 f2 f3 f4 f5 j z0 S Y z3 z4 z5 y0 y1 y2 y3 y4 y5 f;obtain⟨K,M,B,N,O,e5⟩:=Q.out.prf;obtain⟨⟨C,E,F,G,H,I⟩,⟨f0,f1,f2,f3,f4,f5⟩,j⟩:=dZ Q.out.r;obtain⟨⟨z0,S,Y,z3,z4,z5⟩,⟨y0,y1,y2,y3,y4,y5⟩,f⟩:=dZ Q.out.z;simp only at C E F G H I;go_wp2;obtain⟨x0,x1,x2,x3,x4,x5⟩:=ob Q.out.z (.string m) (.int .i64 3) (.int .i64 0) (.string sf) (.int .i64 sl) (.int .i64 sc);exact QY (v:=.agg #[.string m,.int .i64 3,.int .i64 0,.string sf,.int .i64 sl,.int .i64 sc]) (by simp[results,results89,go_sem,x0,x1,x2,x3,x4,x5]) rfl ⟨by rw[HX.out];rfl,(((((Q.out.kept.setCell (QV (by simp)) _).setCell (QV (by simp)) _).setCell (QV (by simp)) _).setCell (QV (by simp)) _).setCell (QV (by simp)) _).setCell (QV (by simp)) _⟩
structure fB(w:World)(v:Nat)(fs:Fs)(h:Hd)(on:Bool)(p2 p3 p4:Value):Prop where
 d:w.heap[v]?=some (.cells #[.slice h.ao fs.length h.cap,.bool on,p2,p3,p4] 85 (0,0))
 own:aw w h (cr fs)
 far:h.blk≠some v
 le:fs.length<=4
theorem fB.Vb(a:fB f H d S y7 I M g)(k:ab [] f x):fB x H d S y7 I M g :=
 ⟨k.get a.d (by simp),a.own.Vb k,a.far,a.le⟩
def DC(w:World)(v:Nat)(h:Hd)(fs:Fs):Prop:=∃on p2 p3 p4,fB w v fs h on p2 p3 p4
theorem fB.keptS(a:fB f H d S y7 I M g)(k:ab yt f x)(e:H∉yt)(c:∀q,S.blk=some q->q∉yt):fB x H d S y7 I M g :=
 ⟨k.get a.d e,a.own.Vg (fun q b=>k.block q (a.own.lt b) (c q b)),a.far,a.le⟩
theorem aw.putAt(o:aw f S yf)(c:S.ao=some ⟨H,0,none⟩)(j:Nat)(v:Value):aw (f.setCell ⟨H,j,none⟩ v) S ⟨yf.e,yf.size,yf.n,yf.xs.set j v⟩:=by
 refine⟨by rw[Rv];exact o.1,?_⟩
 rcases o.2 with ⟨g,t⟩ | ⟨s,d,a,g,p,q,i,k,l,m⟩
 ·injection g with b
  rw[b]at c;cases c
 ·injection g with b r h
  rw[b]at c
  cases c
  refine QV ⟨H,d,a.setIfInBounds j v,by rw[b,h],p,by rw[ah q],i,k,by rw[Array.size_setIfInBounds];exact l,?_⟩;rw[TN]
  show(a.toList.set j v).take (yf.n*yf.size)=yf.xs.set j v
  rw[<-m,UM]
theorem aw.srcFi(o:aw f S (cr d)):mV f S.ao S.cap d:=by
 refine⟨?_,fun k m=>?_⟩
 ·rcases o.Vm with ⟨e,b,_⟩ | ⟨g,c,n,p,h,-⟩
  ·have b:d.length=0:=b
   omega
  ·exact h
 ·obtain⟨g,a,l,-⟩:=qq o (show 0<d.length by omega)
  obtain⟨i,j⟩:=v9 d k m;exact⟨g,a,l,o.cell a (k*2) _ i,o.cell a (k*2+1) _ j⟩
set_option maxRecDepth 512
theorem IX(w:World) :
  Calls prog 28 #[] w fun e a=>e=.returned (.pointer (some ⟨w.heap.size,0,none⟩))/\fB a w.heap.size [] ⟨none,0⟩ false (.pointer none) (.slice none 0 0) (.slice none 0 0)/\ab [] w a:=by
 have b:Hid (fB (w.alloc (.cells #[.slice none 0 0,.bool false,.pointer none,.slice none 0 0,.slice none 0 0] 85)) w.heap.size [] ⟨none,0⟩ false (.pointer none) (.slice none 0 0) (.slice none 0 0)):=⟨QS _ _,QZ _ _ _ _,(by intro e;cases e),by simp⟩;go_enter func28,ntmps28;go_wp2;go_ret;exact⟨rfl,b.out,(ab.refl [] _).alloc _⟩
def PU(w:World)(v:Nat)(fs:Fs)(h:Hd)(n d:ByteArray)(p2 p3 p4:Value)(e:Ending)(w':World):Prop :=
 e=.returned (.int .i64 (fc fs n d).1)/\((fc fs n d).1=0->∃h',fB w' v (fc fs n d).2 h' false p2 p3 p4/\uY w w' v h h')/\((fc fs n d).1≠0->ab [] w w')
theorem fB.off(a:fB f H d S y7 I M g):fB (f.setCell ⟨H,1,none⟩ (.bool false)) H d S false I M g:=by
 have k:ab [H] f (f.setCell ⟨H,1,none⟩ (.bool false)):=(ab.refl _ _).setCell (Q1 (by simp)) _;exact⟨by rw[ah a.d];rfl,a.own.Vg (fun q b=>k.block q (a.own.lt b) (by simp;intro e;exact a.far (by rw[<-e];exact b))),a.far,a.le⟩
theorem uY.set(r:uY f x H S a)(i:Nat)(u:Value):uY f (x.setCell ⟨H,i,none⟩ u) H S a:=⟨r.kept.setCell (Q1 (by simp)) _,r.blk⟩
theorem fB.grown{b:Fs}(i:fB f H d S y7 I M g)(j:bt f x S a)(o:aw x a (cr b))(n:b.length<=4){m:Nat}(p:m=b.length):fB (x.setCell ⟨H,0,none⟩ (.slice a.ao m a.cap)) H b a y7 I M g:=by
 have l:=j.kept.get i.d (fun h=>i.far (aN h));have s:=ae i.d
 have c:a.blk≠some H:=by
  rcases j.blk with e | ⟨q,e,h⟩
  ·rw[e];exact i.far
  ·rw[e];intro r;cases r;omega
 have k:ab [H] x (x.setCell ⟨H,0,none⟩ (.slice a.ao m a.cap)):=(ab.refl _ _).setCell (Q1 (by simp)) _;subst p;exact⟨by rw[ah l];rfl,o.Vg (fun q h=>k.block q (o.lt h) (by simp;intro e;exact c (by rw[<-e];exact h))),c,n⟩
theorem fB.wrote(a:fB f H d S y7 I M g)(c:S.ao=some ⟨v,0,none⟩)(i:o<d.length)(n b:ByteArray):fB ((f.setCell ⟨v,o*2,none⟩ (.string n)).setCell ⟨v,o*2+1,none⟩ (.string b)).drew H (d.set o (n,b)) S y7 I M g:=by
 have h:S.blk=some v:=by unfold Hd.blk;rw[c];rfl
 have j:ab [v] f ((f.setCell ⟨v,o*2,none⟩ (.string n)).setCell ⟨v,o*2+1,none⟩ (.string b)).drew:=(((ab.refl _ _).setCell (Q1 (by simp)) _).setCell (Q1 (by simp)) _).drew
 have k:aw ((f.setCell ⟨v,o*2,none⟩ (.string n)).setCell ⟨v,o*2+1,none⟩ (.string b)) S (cr (d.set o (n,b))):=by
  have:=(a.own.putAt c (o*2) (.string n)).putAt c (o*2+1) (.string b)
  have e:(⟨(cr d).e,(cr d).size,(cr d).n,((cr d).xs.set (o*2) (.string n)).set (o*2+1) (.string b)⟩:dN)=cr (d.set o (n,b)):=by
   simp only[cr,List.length_set];rw[Gk d o n b i]
  rw[e]at this;exact this
 refine⟨?_,k.Vb (ab.refl [] _).drew,a.far,by rw[Rv];exact a.le⟩;rw[Rv];exact j.get a.d (by simp;intro e;exact a.far (by rw[h,e]))
set_option maxRecDepth 100000
theorem Jm(f:Fs)(h:Hd)(N:Bool)(p2 p3 p4:Value)(b d:ByteArray)(w:World)(S:fB w n f h N p2 p3 p4)(hn:b.size<=1073741824)(hd:d.size<=4294967296) :
  Calls prog 15 #[.pointer (some ⟨n,0,none⟩),.string b,.string d] w fun e w'=>PU w n f h b d p2 p3 p4 e w':=by
 have F:Hid (Calls prog 34 #[.string b,.string d] w fun e w'=>e=.returned (.int .i64 (cJ b d))/\w'=w):=BE b d w hn hd
 cases I:(cJ b d==0)
 ·have t:Hid (fc f b d=(cJ b d,f)):=by show _=_;unfold fc;rw[QW (by simpa using I)]
  have HR:Hid _:=S;generalize cJ b d=c at *;go_enter func15,ntmps15;go_wp2_with (go_at_call 34;refine QU F.out ?_;rintro e E ⟨rfl,a⟩;rw[a];clear a);go_ret;exact⟨by rw[t.out];rfl,by rw[t.out];exact⟨(fun q=>by rw[show c=0 from q]at I;cases I),fun _=>ab.refl _ _⟩⟩
 ·have p:cJ b d=0:=by simpa using I
  rw[p]at F;obtain⟨W,G⟩:∃W,Hid (w.alloc (.cells #[.string b,.string d] 68)=W):=⟨_,rfl⟩
  have kW:ab [] w W:=by rw[<-G.out];exact(ab.refl [] _).alloc _
  have O:W.heap[w.heap.size]?=some (.cells #[.string b,.string d] 68 (0,0)):=by rw[<-G.out];exact QS _ _
  have l:=S.Vb kW;have i:Hid _:=l;have P:W.cell? ⟨n,0,none⟩=some (.slice h.ao f.length h.cap):=by rw[aa l.d];rfl
  have c1:W.cell? ⟨n,1,none⟩=some (.bool N):=by rw[aa l.d];rfl
  have f0:=am l.d 0;have f1:=am l.d 1;have z0:=ae l.d;have b0:W.cell? ⟨w.heap.size,0,none⟩=some (.string b):=by rw[aa O];rfl
  have b1:W.cell? ⟨w.heap.size,1,none⟩=some (.string d):=by rw[aa O];rfl
  have zb:=ae O;have z:Hid _:=kW;have V:=S.le;have o:Hid _:=(mu f h.ao h.cap b W (by omega) l.own.srcFi);clear l S kW O I;obtain⟨m,B⟩:∃m,Hid (f.length=m):=⟨_,rfl⟩
  rw[B.out]at P o V
  rcases pI b f with x | ⟨k,K,x⟩
  ·rw[x]at o
   by_cases hl:m=4
   ·have t:Hid (fc f b d=(1,f)):=by show _=_;unfold fc;rw[QT (by simpa using p),x,QT (by omega),QW (by rw[B.out];omega)]
    subst hl;clear x p;go_enter func15,ntmps15
    go_upto_region 5 with (go_at_call 34;refine QU F.out ?_;rintro e E ⟨rfl,a⟩;rw[a];clear a)
    rw[G.out];go_wp2_with (go_at_call 35;refine QU o.out ?_;rintro e E ⟨rfl,a⟩;rw[a];clear a);go_ret;exact⟨by rw[t.out];rfl,by rw[t.out];exact⟨(fun q=>by cases q),fun _=>z.out⟩⟩
   ·have t:Hid (fc f b d=(0,f++[(b,d)])):=by show _=_;unfold fc;rw[QT (by simpa using p),x,QT (by omega),QT (by rw[B.out];omega)]
    have ap:((m:Int)==4)=false:=by simp;omega
    have A:Hid ((cr f).n=m):=B.out;clear x p;obtain⟨i0,hi,Y,Z,ac⟩:=Re zZ;have hD:Hid (fB (W.alloc (.cells #[.string b,.string d] 68)).drew n f h N p2 p3 p4):=i.out.Vb ((ab.refl [] W).alloc _).drew
    have s2:Hid (∀j u,([.string b,.string d]:List Value)[j]?=some u->(W.alloc (.cells #[.string b,.string d] 68)).drew.cell? ((⟨W.heap.size,0,none⟩:Addr).add j)=some u):=by
     intro j u hj;rw[bL];have K:(W.alloc (.cells #[.string b,.string d] 68)).drew.heap[W.heap.size]?=some (.cells #[.string b,.string d] 68 (0,0)):=QS _ _;rw[aa K];simpa using hj
    have s3:Hid (∀u∈([.string b,.string d]:List Value),u.oneCell'=true):=by intro u hu;simp only[List.mem_cons,List.not_mem_nil,or_false]at hu;rcases hu with rfl | rfl <;> rfl
    have s4:Hid ((cr f).n+1<=maxLen):=by show _<=_;rw[A.out];unfold maxLen;omega
    have s5:Hid (((cr f).n+1)*32<=140737488355328):=by show _<=_;rw[A.out];omega
    go_enter func15,ntmps15
    go_upto_region 5 with (go_at_call 34;refine QU F.out ?_;rintro e E ⟨rfl,a⟩;rw[a];clear a)
    rw[G.out]
    go_upto_region 9 with (go_at_call 35;refine QU o.out ?_;rintro e E ⟨rfl,a⟩;rw[a];clear a)
    go_region_law (refine cd rfl (.tmp 41) (.tmp 43) 33 rfl i0 (.agg #[.string ⟨#[]⟩,.string ⟨#[]⟩]) 32 h (cr f) underlying33 hi Y Z ac rfl (show 0<2 by omega) (by rw[A.out];simp[Act.eval]) hD.out.own ⟨W.heap.size,0,none⟩ 1 1 [.string b,.string d] (by simp[Act.eval]) rfl s2.out s3.out Rc s4.out s5.out ?_;intro R r T L y J;have U:=(show Hid (bt W T h ⟨some ⟨R,0,none⟩,r⟩) from(bt.Vb ((ab.refl [] W).alloc _).drew).trans (bt.made y (by simpa using J)));have Q:=U.out.kept.get i.out.d (fun hq=>i.out.far (aN hq));have e5:=am Q 0;have e6:T.cell? ⟨n,0,none⟩=some (.slice h.ao m h.cap):=(by rw[aa Q,<-B.out];rfl);have z5:=ae Q)
    all_goals
     have M:aw T ⟨some ⟨R,0,none⟩,r⟩ (cr (f++[(b,d)])):=by rw[<-wX];exact L
     have s:Hid _:=(i.out.grown (m:=(cr f).n+1) U.out M (by simp;rw[B.out];omega) (by simp[cr]));obtain⟨X,D⟩:∃X,Hid (T.setCell ⟨n,0,none⟩ (.slice (some ⟨R,0,none⟩) ((cr f).n+1) r)=X):=⟨_,rfl⟩
     have v:=(show Hid (uY w X n h ⟨some ⟨R,0,none⟩,r⟩) by rw[<-D.out];exact((uY.of (bt.Vb z.out)).trans (uY.of U.out)).set 0 _);rw[D.out]at s ⊢;have x1:=am s.out.d 1;have x2:X.cell? ⟨n,1,none⟩=some (.bool N):=by rw[aa s.out.d];rfl
     have x3:=ae s.out.d;clear L y J Q e5 e6 z5 M P c1 f0 f1 D;go_wp2;go_ret;exact⟨by rw[t.out];rfl,by rw[t.out];exact⟨fun _=>⟨_,s.out.off,v.out.set 1 _⟩,fun q=>absurd rfl q⟩⟩
  ·have t:Hid (fc f b d=(0,f.set k (b,d))):=by show _=_;unfold fc;rw[QT (by simpa using p),x,QW (by omega),Sa]
   rw[x]at o;obtain⟨g,C,af,ag⟩:=qq i.out.own (show 0<f.length by omega);obtain⟨g',H,-,q0,q1⟩:=i.out.own.srcFi.2 k K;rw[C]at H
   cases H
   have s:Hid _:=i.out.wrote C K b d;have al:(k:Int)<(m:Int):=by rw[B.out]at K;omega
   have ai:(0:Int)<=(k:Int):=by omega
   have an:¬(k:Int)<0:=by omega
   have u0:W.frozen? ⟨g,k*2,none⟩=false/\W.frozen? ⟨g,k*2+1,none⟩=false:=by
    rcases i.out.own.Vm with ⟨e,-,-⟩ | ⟨g2,ad,e1,H,-⟩
    ·rw[e]at C;cases C
    ·rw[C]at e1;cases e1
     exact⟨am H _,am H _⟩
   obtain⟨u0,u1⟩:=u0
   have v:Hid (uY w ((W.setCell ⟨g,k*2,none⟩ (.string b)).setCell ⟨g,k*2+1,none⟩ (.string d)).drew n h h):=by
    have hb:h.blk=some g:=by unfold Hd.blk;rw[C];rfl
    have:=z.out.mono (S':=n :: h.blk.toList) (by simp);exact⟨((this.setCell (Q1 (by rw[hb];simp)) _).setCell (Q1 (by rw[hb];simp)) _).drew,Q1 rfl⟩
   rw[C]at P o;clear x p;go_enter func15,ntmps15
   go_upto_region 5 with (go_at_call 34;refine QU F.out ?_;rintro e E ⟨rfl,a⟩;rw[a];clear a)
   rw[G.out]
   go_upto_region 10 with (go_at_call 35;refine QU o.out ?_;rintro e E ⟨rfl,a⟩;rw[a];clear a)
   go_region
   obtain⟨X,D⟩:∃X,Hid (((W.setCell ⟨g,k*2,none⟩ (.string b)).setCell ⟨g,k*2+1,none⟩ (.string d)).drew=X):=⟨_,rfl⟩
   rw[D.out]at s v ⊢;have x1:=am s.out.d 1;have x2:X.cell? ⟨n,1,none⟩=some (.bool N):=by rw[aa s.out.d];rfl
   have x3:=ae s.out.d;clear P c1 f0 f1 D q0 q1 u0 u1;go_wp2;go_ret;exact⟨by rw[t.out];rfl,by rw[t.out];exact⟨fun _=>⟨_,s.out.off,v.out.set 1 _⟩,fun q=>absurd rfl q⟩⟩
def NS(x:jS×Hd):List Value:=[.slice x.2.ao x.1.st.length x.2.cap,.int .i64 x.1.why,.string x.1.file,.int .i64 x.1.line,.int .i64 x.1.col]
theorem NT:(NS yz).length=5:=rfl
def fP(L:List (jS×Hd)):dN:=kU 122 5 NS L
def fM(L:List ik):dN:=kU 38 6 jJ L
structure Om(w:World)(v b:Nat)(x0 x1:Value)(PS:List (jS×Hd))(aoP:Option Addr)(cP:Nat)(RS:List ik)(aoR:Option Addr)(cR:Nat):Prop where
 d:w.heap[v]?=some (.cells #[x0,x1,.pointer (some ⟨b,0,none⟩),.slice aoP PS.length cP,.slice aoR RS.length cR] 85 (0,0))
 p:cm w aoP 5 NS PS
 q:∀x∈PS,cm w x.2.ao 6 kV x.1.st
 r:cm w aoR 6 jJ RS
theorem Om.Vb{c:List ik}{b:Option Addr}{e:Nat}(a:Om f H v I M N yy o c b e)(k:ab [] f x):Om x H v I M N yy o c b e :=
 ⟨k.get a.d (by simp),a.p.Vb k,fun h g=>(a.q h g).Vb k,a.r.Vb k⟩
def ff(RS:List ik)(a:Nat):ik:=RS.getD a N8
theorem Az(b:List ik)(a:Nat)(h:a<b.length):b[a]?=some (ff b a):=by
 unfold ff;rw[QQ,QP h];rfl
def fR(RS:List ik)(a:Nat):Bool:=((ff RS a).Vc==4)||((ff RS a).Vc==5)
theorem JM(v x:Value)(p:List (jS×Hd))(i:Option Addr)(q:Nat)(a:List ik)(j:Option Addr)(l:Nat)(w:World)(f:Om w yv ys v x p i q a j l)(s:n<a.length) :
  Calls prog 66 #[.pointer (some ⟨yv,0,none⟩),.int .i64 n] w fun e u=>e=.returned (.bool (fR a n))/\u=w:=by
 obtain⟨g,rfl,A,c⟩:=f.r n _ (Az a n s);have y:w.cell? ⟨g,n*6+1,none⟩=some (.int .i64 (ff a n).Vc):=c 1 _ rfl;have z:w.cell? ⟨yv,4,none⟩=some (.slice (some ⟨g,0,none⟩) a.length l):=by rw[aa f.d];rfl
 have B:=ae f.d;have t:(n:Int)<(a.length:Int):=by omega
 have h:Hid (fR a n=(((ff a n).Vc==4)||((ff a n).Vc==5))):=rfl;generalize (ff a n).Vc=o at *;clear f c
 cases k:(o==4)
 ·cases m:(o==5)
  ·have b:Hid (fR a n=false):=by show _=_;rw[h.out,k,m];rfl
   go_enter func66,ntmps66;go_wp2;go_ret;exact⟨aD b.out.symm,rfl⟩
  ·have b:Hid (fR a n=true):=by show _=_;rw[h.out,k,m];rfl
   go_enter func66,ntmps66;go_wp2;go_ret;exact⟨aD b.out.symm,rfl⟩
 ·have b:Hid (fR a n=true):=by show _=_;rw[h.out,k];rfl
  go_enter func66,ntmps66;go_wp2;go_ret;exact⟨aD b.out.symm,rfl⟩
def lr(PS:List (jS×Hd))(t:Nat):jS×Hd:=PS.getD t (⟨[],0,⟨#[]⟩,0,0⟩,⟨none,0⟩)
theorem As(h:n<yg.length):yg[n]?=some (lr yg n):=by
 unfold lr;rw[QQ,QP h];rfl
def jp(PS:List (jS×Hd))(RS:List ik)(a k:Nat):Prop:=∀P:Nat->Prop,P a->(∀t k i:Nat,P t->fR RS t=true->i<(lr PS t).1.st.length->(bO (lr PS t).1.st i).ref=(k:Int)->P k)->P k
theorem jp.self{a:List ik}:jp N a H H:=fun _ h _=>h
theorem jp.step{a:List ik}{t:Nat}(h:jp N a H t)(d:fR a t=true)(e:o<(lr N t).1.st.length)(f:(bO (lr N t).1.st o).ref=(v:Int)):jp N a H v:=fun P c b=>b t v o (h P c b) d e f
def vy(PS:List (jS×Hd))(RS:List ik)(inn:List Bool)(t:Nat):Prop:=inn.getD t false=true->fR RS t=true->∀i,i<(lr PS t).1.st.length->∀k:Nat,(bO (lr PS t).1.st i).ref=(k:Int)->inn.getD k false=true
structure vC(PS:List (jS×Hd))(RS:List ik)(a:Nat)(inn:List Bool):Prop where
 len:inn.length=a+1
 self:inn.getD a false=true
 sub:∀k,inn.getD k false=true->jp PS RS a k
theorem zY(h:n<y6.length):y6[n]?=some (y6.getD n false):=by
 rw[QQ,QP h];rfl
theorem Oa(h:y6.getD n false=true):(y6.set ys true).getD n false=true:=by
 rw[QQ]at h ⊢;rw[RU]
 by_cases e:ys=n
 ·rw[QW e]
  split
  ·rfl
  ·next a=>rw[Rx (by omega)]at h;cases h
 ·rw[QT e];exact h
theorem GK(h:(y6.set ys true).getD n false=true):n=ys∨y6.getD n false=true:=by
 by_cases e:ys=n
 ·exact Q1 e.symm
 ·right
  rw[QQ,RU,QT e,<-QQ]at h;exact h
theorem vC.set{a:List ik}(h:vC N a H ya)(b:jp N a H v):vC N a H (ya.set v true) :=
 ⟨by rw[Rv];exact h.len,Oa ya v H h.self,fun q c=>by
  rcases GK ya v q c with e | e
  ·rw[e];exact b
  ·exact h.sub q e⟩
theorem vC.all{a:List ik}(h:vC N a H ya)(c:∀t,t<=H->vy N a ya t)(k:Nat):ya.getD k false=true ↔ jp N a H k:=by
 refine⟨h.sub k,fun g=>?_⟩;refine g (fun k=>ya.getD k false=true) h.self (fun t k i b j f d=>?_)
 have l:t<=H:=by
  have m:=h.len
  by_cases e:t<ya.length
  ·omega
  ·rw[QQ,Rx (by omega)]at b;cases b
 exact c t l b j i f k d
def Qv(S:List Sm)(inn:List Bool)(t:Nat):Bool:=inn.getD t false&&((au S t).k.toList == [36,97])
def PY(S:List Sm)(RS:List ik)(inn:List Bool)(t:Nat):Bool:=inn.getD t false&&(((au S t).k.toList == [36,112]) && !fR RS t)
def MV(T:List Tk)(S:List Sm)(inn:List Bool)(n:Nat):List ByteArray:=((List.range n).filter (Qv S inn)).map (fun t=>bG T (au S t))
def DK(T:List Tk)(S:List Sm)(RS:List ik)(inn:List Bool)(n:Nat):List ByteArray:=((List.range n).filter (PY S RS inn)).map (fun t=>bG T (au S t))
theorem KC:MV b w y6 (n+1)=MV b w y6 n++(if Qv w y6 n=true then [bG b (au w n)] else []):=by
 unfold MV;rw[gZ,Ry]
 split <;> rfl
theorem KI(c:List ik)(a:List Bool)(n:Nat):DK b w c a (n+1)=DK b w c a n++(if PY w c a n=true then [bG b (au w n)] else []):=by
 unfold DK;rw[gZ,Ry]
 split <;> rfl
def OG(T:List Tk)(S:List Sm)(PS:List (jS×Hd))(RS:List ik)(a:Nat)(w:World)(e:Ending)(w':World):Prop :=
 ∃(inn:List Bool) (h1 h2:Hd),(∀k,inn.getD k false=true ↔ jp PS RS a k)/\e=.returned (.tuple #[.slice h1.ao (MV T S inn (a+1)).length h1.cap,.slice h2.ao (DK T S RS inn (a+1)).length h2.cap])/\gw w w' h1 (aB (MV T S inn (a+1)))/\gw w w' h2 (aB (DK T S RS inn (a+1)))
theorem gw.two{d:Hd}{c m:dN}(n:gw f x S yf)(b:gw f x d m)(j:∀k,S.blk=some k->d.blk≠some k)(g:bt x yu S a)(o:aw yu a c):gw f yu a c/\gw f yu d m/\∀k,a.blk=some k->d.blk≠some k:=by
 have l:=n.Vl g o;refine⟨l,⟨g.beside b.own (fun k h i=>j k i h),b.far,l.kept⟩,fun k h i=>?_⟩
 rcases g.blk with e | ⟨q,e,p⟩
 ·exact j k (by rw[<-e];exact h) i
 ·have:=b.own.lt i
  rw[h]at e
  cases e
  omega
theorem jy.out(h:jy f H ya):H<f.heap.size:=ae h
theorem Gr(k:List UInt8)(h:(k == [36,97])=true):(k == [36,112])=false:=by
 have:=TR h;rw[this];rfl
theorem CO(x0 x1:Value)(v:List (jS×Hd))(a2:Option Addr)(cP:Nat)(z:List ik)(ch:Option Addr)(cR:Nat)(C:World)(hD:fz C T b D L w i n)(hJ:Om C y T x0 x1 v a2 cP z ch cR)(dz:l<v.length)(dT:l<z.length)(d0:l<w.length)(ha:l<=10000)(hA:∀j,j<=l->(au w j).a<b.length)(cj:∀t,t<=l->(lr v t).1.st.length<=100000000/\∀u,u<(lr v t).1.st.length->(bO (lr v t).1.st u).ref<=(l:Int)) :
  Calls prog 67 #[.pointer (some ⟨y,0,none⟩),.int .i64 l] C fun e F=>OG b w v z l C e F:=by
 obtain⟨i1,c3,c8,c9,db⟩:=Re Ls;obtain⟨iS,cl,bc,be,bf⟩:=Re js;have m2:=fun C=>dB (P:=prog) C 134 4 i1 _ underlying134 c3 c8 (l+1) 1 c9 (by rw[db];omega) (by omega)
 obtain⟨mc,ca⟩:∃mc,Hid (madeCells (Value.bool false).cells ((l+1)*1)=mc):=⟨_,rfl⟩
 have b1:Hid (mc=((List.replicate (l+1) false).map Value.bool).toArray):=by show _=_;rw[<-ca.out,wE]
 rw[ca.out]at m2;have c1:((l+1:Nat):Int)=(l:Int)+1:=by omega
 have m3:=m2 C;rw[c1]at m3;obtain⟨W,HW⟩:∃W,Hid (C.alloc (.cells (mc.setIfInBounds l (.bool true)) 4)=W):=⟨_,rfl⟩
 have a1:jy (C.alloc (.cells mc 4)) C.heap.size (List.replicate (l+1) false):=by
  unfold jy;rw[b1.out];exact QS _ _
 have cf:Hid (jy W C.heap.size ((List.replicate (l+1) false).set l true)):=by
  show jy _ _ _
  unfold jy;rw[<-HW.out,b1.out];refine(QS _ _).trans ?_
  congr 2
  rw[Ru,Tn]
 have cz:Hid (ab [] C W):=by show ab [] C W;rw[<-HW.out];exact(ab.refl [] _).alloc _
 have cb:Hid (vC v z l ((List.replicate (l+1) false).set l true)):=by
  refine⟨by simp,by rw[QQ,Ug (by simp)];rfl,fun k hk=>?_⟩
  rcases GK _ l k hk with e | e
  ·rw[e];exact jp.self
  ·rw[QQ,Sf]at e
   split at e <;> cases e
 have c0:(C.alloc (.cells mc 4)).cell? ⟨C.heap.size,l,none⟩=some (.bool false):=a1.cell l false (by rw[Sf,QW (by omega)]);have f0:=am a1 l;have z0:=ae a1;have d1:(l:Int)<(l:Int)+1:=by omega
 have HD:Hid _:=hD;have HJ:Hid _:=hJ;have HA:Hid _:=hA;have cE:Hid _:=cj;have b4:Hid (∀t,t<=l->∀wx,ab [] C wx->Calls prog 66 #[.pointer (some ⟨y,0,none⟩),.int .i64 t] wx fun e F=>e=.returned (.bool (fR z t))/\F=wx):=fun t ht wx kx=>JM y T t x0 x1 v a2 cP z ch cR wx (hJ.Vb kx) (by omega)
 clear hD hJ hA cj a1 m2;go_enter func67,ntmps67
 go_upto_region 3 with fail
 rw[HW.out];clear c0 f0 z0 m3;go_wp2;obtain⟨V,cx⟩:∃V,Hid ((List.replicate (l+1) false).set l true=V):=⟨_,rfl⟩
 rw[cx.out]at cf cb
 go_loopg [7] (2*aQ V+1) (fun g ag wr=>∃(f:Bool) (a:List Bool),ag=.bool f/\g=2*aQ a+(if f=true then 1 else 0)/\Hid (vC v z l a)/\Hid (f=false->∀t,t<=l->vy v z a t)/\Hid (jy wr C.heap.size a)/\Hid (ab [] C wr))
 case atStart=>exact⟨true,V,rfl,rfl,cb,(fun h=>by cases h),cf,cz⟩
 case round =>
  obtain⟨f,a,rfl,hg,o,bk,m,I⟩:=hrel
  cases f
  ·have ct:Hid _:=vC.all o.out (bk.out rfl)
   have HL:Hid _:=o.out.len;obtain⟨w1,bs⟩:∃w1,Hid (wr=w1):=⟨_,rfl⟩
   rw[bs.out];rw[bs.out]at m I;clear bs bk hg;have b2:Hid (gw w1 w1 ⟨none,0⟩ (aB [])):=⟨QZ _ _ _ _,(by intro k hk;cases hk),ab.refl _ _⟩;have cq:Hid (([]:List ByteArray)=MV b w a 0):=rfl;have cu:Hid (([]:List ByteArray)=DK b w z a 0):=rfl;go_wp2
   go_loopg [12,13,14] (l+1) (fun g ax bd tv wr=>∃(t:Nat) (Z h2:Hd) (A B:List ByteArray),t<=l+1/\g=l+1-t/\ax=.slice Z.ao A.length Z.cap/\bd=.slice h2.ao B.length h2.cap/\tv=.int .i64 t/\(A.length<=t/\B.length<=t)/\Hid (A=MV b w a t)/\Hid (B=DK b w z a t)/\Hid (gw w1 wr Z (aB A))/\Hid (gw w1 wr h2 (aB B))/\Hid (∀k,Z.blk=some k->h2.blk≠some k))
   case atStart=>exact⟨0,⟨none,0⟩,⟨none,0⟩,[],[],by omega,rfl,rfl,rfl,rfl,⟨QR _,QR _⟩,cq,cu,b2,b2,(by intro k hk;cases hk)⟩
   case round =>
    obtain⟨t,Z,h2,A,B,ht,c2,rfl,rfl,rfl,⟨ds,dt⟩,bg,bj,a0,b6,ac⟩:=hrel
    by_cases ar:t<=l
    ·have bw:(t:Int)<=(l:Int):=by omega
     have az:t<w.length:=by omega
     have bT:Hid _:=I.out.trans a0.out.kept
     have b0:Hid (Calls prog 87 #[.pointer (some ⟨T,0,none⟩),.int .i64 t] wr fun e F=>e=.returned (.string (bG b (au w t)))/\ab [] wr F):=by
      have:=nQ T t b D L w i n wr (fz.Vb HD.out bT.out) az (by rw[bM w t az];exact HA.out t ar);rw[bM w t az]at this;exact this
     have M:Hid (∀F:World,ab [] w1 F->F.cell? ⟨C.heap.size,t,none⟩=some (.bool (a.getD t false))/\C.heap.size<F.heap.size/\F.cell? ⟨y,2,none⟩=some (.pointer (some ⟨T,0,none⟩))/\y<F.heap.size/\∃gs,i=some ⟨gs,0,none⟩/\gs<F.heap.size/\F.cell? ⟨T,1,none⟩=some (.slice i w.length n)/\T<F.heap.size/\F.cell? ⟨gs,t*4+3,none⟩=some (.string (au w t).k)):=fun F kw=>by
      have hs:=jy.kept m.out kw (by simp);have hd:=fz.Vb HD.out (I.out.trans kw);have hj:=Om.Vb HJ.out (I.out.trans kw);obtain⟨-,s0,hb⟩:=hd.cells;obtain⟨gs,e3,a5,-,-,-,q3⟩:=hd.s.2 t w[t] (QP az);rw[bM w t az]at q3;exact⟨hs.cell t _ (zY a t (by rw[HL.out];omega)),hs.out,by rw[aa hj.d];rfl,ae hj.d,gs,e3,a5,s0,hb,q3⟩
     have E:Hid _:=b4.out t ar;have ai:Hid _:=KC b w a t;have Q:Hid _:=KI b w z a t;rw[<-bg.out]at ai;rw[<-bj.out]at Q;have bl:Hid (Qv w a t=(a.getD t false&&((au w t).k.toList == [36,97]))):=rfl;have X:Hid (PY w z a t=(a.getD t false&&(((au w t).k.toList == [36,112]) && !fR z t))):=rfl;obtain⟨sd,al⟩:∃sd,Hid (fR z t=sd):=⟨_,rfl⟩
     rw[al.out]at E X;obtain⟨x,Hx⟩:∃x,Hid (bG b (au w t)=x):=⟨_,rfl⟩
     rw[Hx.out]at b0 ai Q;generalize (au w t).k=sk at *;generalize a.getD t false=ib at *;obtain⟨-,-,v2,cp,-⟩:=M.out wr a0.out.kept
     go_upto_region 23 with (go_at_call 87;refine QU b0.out ?_;rintro e w2 ⟨rfl,k2⟩)
     have af:Hid _:=k2;clear k2 v2 cp;have b5:Hid _:=E.out w2 (bT.out.trans af.out)
     go_upto_region 24 with (go_at_call 66;refine QU b5.out ?_;rintro e w3 ⟨rfl,G⟩;rw[G];clear G)
     have R:Hid _:=a0.out.Vb af.out;have Y:Hid _:=b6.out.Vb af.out;obtain⟨y0,y1,y2,y3,gs,rfl,a5,s0,cX,q3⟩:=M.out w2 R.out.kept;have d9:(t:Int)<(w.length:Int):=by omega
     have c7:(t:Int)<(l:Int)+1:=by omega
     have c6:(0:Int)<=(t:Int):=by omega
     cases ib
     ·have O:Hid (A=MV b w a (t+1)):=by show _=_;rw[ai.out,bl.out];simp
      have J:Hid (B=DK b w z a (t+1)):=by show _=_;rw[Q.out,X.out];simp
      go_wp2
      go_roundg (l+1-(t+1))
      case measure=>omega
      case rel=>exact⟨t+1,Z,h2,A,B,by omega,rfl,rfl,rfl,by go_num,⟨by omega,by omega⟩,O,J,R,Y,ac⟩
     ·cases a6:(sk.toList == [36,97])
      ·have O:Hid (A=MV b w a (t+1)):=by show _=_;rw[ai.out,bl.out,a6];simp
       cases ap:(sk.toList == [36,112])
       ·have J:Hid (B=DK b w z a (t+1)):=by show _=_;rw[Q.out,X.out,ap];simp
        go_wp2
        go_roundg (l+1-(t+1))
        case measure=>omega
        case rel=>exact⟨t+1,Z,h2,A,B,by omega,rfl,rfl,rfl,by go_num,⟨by omega,by omega⟩,O,J,R,Y,ac⟩
       ·cases sd
        ·have J:Hid (B++[x]=DK b w z a (t+1)):=by show _=_;rw[Q.out,X.out,ap];simp
         have a4:=Y.out.own;have a3:(aB B).n<=900000000:=by show B.length<=_;omega
         go_wp2_with (at_builtin;refine bN _ rfl (.tmp 136) (.tmp 138) 61 rfl iS (.string ⟨#[]⟩) 16 h2 (aB B) [.string x] underlying61 cl bc be bf rfl Rc rfl a4 a3 (by omega) rfl rfl (by simp[Value.oneCell']) ?_;intro h5 w5 U an;rw[dr]at U;have K:Hid _:=(gw.two Y.out R.out (fun k hk hq=>ac.out k hq hk) an U);clear U an)
         go_roundg (l+1-(t+1))
         case measure=>omega
         case rel=>exact⟨t+1,Z,h5,A,B++[x],by omega,rfl,rfl,by simp[aB],by go_num,⟨by omega,by simp;omega⟩,O,J,K.out.2.1,K.out.1,(fun k hk hq=>K.out.2.2 k hq hk)⟩
        ·have J:Hid (B=DK b w z a (t+1)):=by show _=_;rw[Q.out,X.out,ap];simp
         go_wp2
         go_roundg (l+1-(t+1))
         case measure=>omega
         case rel=>exact⟨t+1,Z,h2,A,B,by omega,rfl,rfl,rfl,by go_num,⟨by omega,by omega⟩,O,J,R,Y,ac⟩
      ·have ap:=Gr _ a6
       have O:Hid (A++[x]=MV b w a (t+1)):=by show _=_;rw[ai.out,bl.out,a6];simp
       have J:Hid (B=DK b w z a (t+1)):=by show _=_;rw[Q.out,X.out,ap];simp
       have a4:=R.out.own;have a3:(aB A).n<=900000000:=by show A.length<=_;omega
       go_upto_region 26 with (at_builtin;refine bN _ rfl (.tmp 110) (.tmp 112) 61 rfl iS (.string ⟨#[]⟩) 16 Z (aB A) [.string x] underlying61 cl bc be bf rfl Rc rfl a4 a3 (by omega) rfl rfl (by simp[Value.oneCell']) ?_;intro h5 w5 U an;rw[dr]at U;have K:Hid _:=gw.two R.out Y.out ac.out an U;clear U an)
       obtain⟨z0,z1,z2,z3,dp,ez,dk,z4,z5,z6⟩:=M.out w5 K.out.1.kept
       cases ez
       clear y0 y1 y2 y3 a5 s0 cX q3 a4 a3;go_wp2
       go_roundg (l+1-(t+1))
       case measure=>omega
       case rel=>exact⟨t+1,h5,h2,A++[x],B,by omega,rfl,by simp[aB],rfl,by go_num,⟨by simp;omega,by omega⟩,O,J,K.out.1,K.out.2.1,K.out.2.2⟩
    ·have et:t=l+1:=by omega
     subst et;have bw:¬(l:Int)+1<=(l:Int):=by omega
     go_wp2;go_ret2;exact⟨a,Z,h2,ct.out,by rw[<-bg.out,<-bj.out];rfl,by rw[<-bg.out];exact a0.out.base I.out,by rw[<-bj.out];exact b6.out.base I.out⟩
  ·obtain⟨c,Hc⟩:∃c,Hid (aQ a=c):=⟨_,rfl⟩
   rw[Hc.out]at hg;have hg:_=2*c+1:=hg;have bx:Hid (aQ a<=c):=by show _<=_;rw[Hc.out];omega
   clear bk;go_wp2
   go_loopg [7,8] (l+1) (fun g2 ag tv wr=>∃(t:Nat) (f:Bool) (a:List Bool),t<=l+1/\g2=l+1-t/\ag=.bool f/\tv=.int .i64 t/\Hid (aQ a<=c/\(f=true->aQ a<c))/\Hid (f=false->∀H,H<t->vy v z a H)/\Hid (vC v z l a)/\Hid (jy wr C.heap.size a)/\Hid (ab [] C wr))
   case atStart=>exact⟨0,false,a,by omega,rfl,rfl,rfl,⟨bx.out,fun h=>by cases h⟩,(fun _ t ht=>absurd ht (T0 t)),o,m,I⟩
   case round =>
    clear bx o m I Hc;obtain⟨t,f,a,ht,c2,rfl,rfl,HC,HT,o,m,I⟩:=hrel
    by_cases ar:t<=l
    ·have bw:(t:Int)<=(l:Int):=by omega
     have E:Hid _:=b4.out t ar wr I.out;have y0:=jy.cell m.out t _ (zY a t (by rw[o.out.len];omega));have y1:=jy.out m.out;obtain⟨sd,al⟩:∃sd,Hid (fR z t=sd):=⟨_,rfl⟩
     rw[al.out]at E;obtain⟨ib,S⟩:∃ib,Hid (a.getD t false=ib):=⟨_,rfl⟩
     rw[S.out]at y0;have c6:(0:Int)<=(t:Int):=by omega
     have c7:(t:Int)<(l:Int)+1:=by omega
     have bp:Hid (vy v z a t->f=false->∀H,H<t+1->vy v z a H):=fun hc h H c5=>by
      by_cases e:H=t
      ·rw[e];exact hc
      ·exact HT.out h H (by omega)
     cases ib
     ·have HM:Hid _:=bp.out (fun h=>by rw[S.out]at h;cases h)
      go_wp2_with (go_at_call 66;refine QU E.out ?_;rintro e w3 ⟨rfl,G⟩;rw[G];clear G)
      go_roundg (l+1-(t+1))
      case measure=>omega
      case rel=>exact⟨t+1,f,a,by omega,rfl,rfl,by go_num,HC,HM,o,m,I⟩
     ·cases sd
      ·have HM:Hid _:=bp.out (fun _ h=>by rw[al.out]at h;cases h)
       go_wp2_with (go_at_call 66;refine QU E.out ?_;rintro e w3 ⟨rfl,G⟩;rw[G];clear G)
       go_roundg (l+1-(t+1))
       case measure=>omega
       case rel=>exact⟨t+1,f,a,by omega,rfl,rfl,by go_num,HC,HM,o,m,I⟩
      ·have cB:Hid _:=o.out.sub t S.out
       obtain⟨co,aT⟩:=cE.out t ar;have aT:Hid _:=aT;have d8:(t:Int)<(v.length:Int):=by omega
       have M:Hid (∀F:World,ab [] C F->∃gP,a2=some ⟨gP,0,none⟩/\gP<F.heap.size/\F.cell? ⟨y,3,none⟩=some (.slice a2 v.length cP)/\y<F.heap.size/\F.cell? ⟨gP,t*5,none⟩=some (.slice (lr v t).2.ao (lr v t).1.st.length (lr v t).2.cap)/\cm F (lr v t).2.ao 6 kV (lr v t).1.st):=fun F kw=>by
        have hj:=Om.Vb HJ.out kw;obtain⟨gP,e,ck,cc⟩:=hj.p t _ (As v t (by omega));exact⟨gP,e,ck,by rw[aa hj.d];rfl,ae hj.d,cc 0 _ rfl,hj.q _ (R4 (As v t (by omega)))⟩
       have a7:Hid (∀a:List Bool,(∀u,u<(lr v t).1.st.length->∀k:Nat,(bO (lr v t).1.st u).ref=(k:Int)->a.getD k false=true)->vy v z a t):=fun _ h _ _=>h
       have ba:Hid (∀u,u<(lr v t).1.st.length->∀k:Nat,(bO (lr v t).1.st u).ref=(k:Int)->jp v z l k):=fun u hi k he=>jp.step cB.out al.out hi he
       have ad:Hid (f=false->(∀H,H<t->vy v z a H)/\∀u,u<0->∀k:Nat,(bO (lr v t).1.st u).ref=(k:Int)->a.getD k false=true):=fun h=>⟨HT.out h,fun u hi=>by omega⟩
       obtain⟨N,cV⟩:∃N,Hid ((lr v t).1.st=N):=⟨_,rfl⟩
       obtain⟨hd,cL⟩:∃hd,Hid ((lr v t).2=hd):=⟨_,rfl⟩
       rw[cV.out]at M a7 ba ad co aT;rw[cL.out]at M;obtain⟨df,dl⟩:=hd;simp only at M;go_wp2_with (go_at_call 66;refine QU E.out ?_;rintro e w3 ⟨rfl,G⟩;rw[G];clear G)
       go_loopg [7,10] N.length (fun g3 ag iv wr=>∃(u:Nat) (f:Bool) (a:List Bool),u<=N.length/\g3=N.length-u/\ag=.bool f/\iv=.int .i64 u/\Hid (aQ a<=c/\(f=true->aQ a<c))/\Hid (f=false->(∀H,H<t->vy v z a H)/\∀i',i'<u->∀k:Nat,(bO N i').ref=(k:Int)->a.getD k false=true)/\Hid (vC v z l a)/\Hid (jy wr C.heap.size a)/\Hid (ab [] C wr))
       case atStart=>exact⟨0,f,a,by omega,rfl,rfl,rfl,HC,ad,o,m,I⟩
       case round =>
        clear HC ad HT o m I bp y0 y1 S E;obtain⟨u,f,a,hi,d2,rfl,rfl,HC,HT,o,m,I⟩:=hrel;obtain⟨gP,rfl,ck,v3,cp,p0,bo⟩:=M.out wr I.out
        by_cases bv:u<N.length
        ·have d5:(u:Int)<(N.length:Int):=by omega
         obtain⟨gs,es,a5,cs⟩:=bo u _ (GO N u bv);replace es:df=some ⟨gs,0,none⟩:=es;subst es;have s0:wr.cell? ⟨gs,u*6,none⟩=some (.int .i64 (bO N u).ref):=cs 0 _ rfl;have cA:Hid _:=aT.out u bv;have cF:Hid _:=ba.out u bv
         have b3:Hid (f=false->(∀k:Nat,(bO N u).ref=(k:Int)->a.getD k false=true)->(∀H,H<t->vy v z a H)/\∀i',i'<u+1->∀k:Nat,(bO N i').ref=(k:Int)->a.getD k false=true):=fun h hk=>⟨(HT.out h).1,fun i' d3 k he=>by
          by_cases e:i'=u
          ·subst e;exact hk k he
          ·exact(HT.out h).2 i' (by omega) k he⟩
         generalize (bO N u).ref=r at *;clear cs bo;have d4:(0:Int)<=(u:Int):=by omega
         by_cases c4:(0:Int)<=r
         ·obtain⟨k,rfl⟩:=Int.eq_ofNat_of_zero_le c4
          have a6:k<=l:=by have:=cA.out;omega
          have d7:(k:Int)<(l:Int)+1:=by omega
          have y0:=jy.cell m.out k _ (zY a k (by rw[o.out.len];omega));have y1:=jy.out m.out;have bz:Hid _:=(zY a k (by rw[o.out.len];omega));obtain⟨ib,S⟩:∃ib,Hid (a.getD k false=ib):=⟨_,rfl⟩
          rw[S.out]at y0 bz;have d6:(0:Int)<=(k:Int):=by omega
          cases ib
          ·have HU:Hid _:=lC a k bz.out
           have aS:Hid (aQ (a.set k true)<c):=by
            have Z:=HU.out;have h2:=HC.out.1
            show _<_
            omega
           have cy:Hid _:=vC.set o.out (cF.out k rfl);obtain⟨W3,br⟩:∃W3,Hid (wr.setCell ⟨C.heap.size,k,none⟩ (.bool true)=W3):=⟨_,rfl⟩
           have cH:Hid (jy W3 C.heap.size (a.set k true)):=by show jy _ _ _;rw[<-br.out];exact jy.set m.out k
           have af:Hid (ab [] C W3):=by show ab [] C W3;rw[<-br.out];exact I.out.setCell (QV (by simp)) _
           have f0:=am m.out k
           go_upto_region 17 with fail
           rw[br.out];go_wp2
           go_roundg (N.length-(u+1))
           case measure=>omega
           case rel=>exact⟨u+1,true,a.set k true,by omega,rfl,rfl,by go_num,⟨RM aS.out,fun _=>aS.out⟩,(fun h=>by cases h),cy,cH,af⟩
          ·have HM:Hid _:=fun h=>b3.out h (fun q hq=>by rw[show q=k by omega];exact S.out)
           go_wp2
           go_roundg (N.length-(u+1))
           case measure=>omega
           case rel=>exact⟨u+1,f,a,by omega,rfl,rfl,by go_num,HC,HM,o,m,I⟩
         ·have HM:Hid _:=fun h=>b3.out h (fun q hq=>absurd hq (by omega))
          go_wp2
          go_roundg (N.length-(u+1))
          case measure=>omega
          case rel=>exact⟨u+1,f,a,by omega,rfl,rfl,by go_num,HC,HM,o,m,I⟩
        ·have ei:u=N.length:=by omega
         subst ei
         have HM:Hid (f=false->∀H,H<t+1->vy v z a H):=fun h H c5=>by
          by_cases e:H=t
          ·rw[e];exact a7.out a (HT.out h).2
          ·exact(HT.out h).1 H (by omega)
         clear bo;go_wp2
         go_roundg (l+1-(t+1))
         case measure=>omega
         case rel=>exact⟨t+1,f,a,by omega,rfl,rfl,by go_num,HC,HM,o,m,I⟩
    ·have et:t=l+1:=by omega
     subst et;have bw:¬(l:Int)+1<=(l:Int):=by omega
     have HM:Hid (f=false->∀t,t<=l->vy v z a t):=fun h t ht=>HT.out h t (by omega)
     have dv:=HC.out.1;have aS:Hid _:=HC.out.2;go_wp2
     go_roundg (2*aQ a+(if f=true then 1 else 0))
     case measure =>
      cases f
      ·rw[QT (by simp)];omega
      ·have:=aS.out rfl
       rw[QW rfl];omega
     case rel=>exact⟨f,a,rfl,rfl,o,HM,m,I⟩
theorem OW:(prog.info? 122).map (fun i=>(i.zero,i.size,i.bytes))=some (some (.agg #[.slice none 0 0,.int .i64 0,.string ⟨#[]⟩,.int .i64 0,.int .i64 0]),5,64):=by kernel_rfl
theorem Gp:(prog.info? 38).map (fun i=>(i.zero,i.size,i.bytes))=some (some (.agg #[.string ⟨#[]⟩,.int .i64 0,.int .i64 0,.string ⟨#[]⟩,.int .i64 0,.int .i64 0]),6,64):=by kernel_rfl
theorem pV:(⟨(fP yg).e,(fP yg).size,(fP yg).n+1,(fP yg).xs++NS yz⟩:dN)=fP (yg++[yz]):=gM _ _ _ _ _
theorem rL(L:List ik)(x:ik):(⟨(fM L).e,(fM L).size,(fM L).n+1,(fM L).xs++jJ x⟩:dN)=fM (L++[x]):=gM _ _ _ _ _
theorem cm.keptS{α:Type}{a:α->List Value}{L:List α}(h:cm f yy H a L)(k:ab yt f x)(d:∀g,yy=some ⟨g,0,none⟩->g∉yt):cm x yy H a L:=fun j n m=>by
 obtain⟨g,e,b,c⟩:=h j n m;exact⟨g,e,QX b k.size,fun i u l=>by rw[Q6 (k.block g b (d g e))];exact c i u l⟩
def Kl(w:World)(h1 h2:Hd)(x:jS×Hd):Prop:=∀g,x.2.ao=some ⟨g,0,none⟩->w.heap.size<=g/\h1.blk≠some g/\h2.blk≠some g
structure vD(w wr:World)(v b:Nat)(x0 x1:Value)(PS:List (jS×Hd))(h1:Hd)(RS:List ik)(h2:Hd):Prop where
 d:wr.heap[v]?=some (.cells #[x0,x1,.pointer (some ⟨b,0,none⟩),.slice h1.ao PS.length h1.cap,.slice h2.ao RS.length h2.cap] 85 (0,0))
 lt:v<w.heap.size
 o1:aw wr h1 (fP PS)
 o2:aw wr h2 (fM RS)
 f1:∀k,h1.blk=some k->w.heap.size<=k
 f2:∀k,h2.blk=some k->w.heap.size<=k
 ap:∀k,h1.blk=some k->h2.blk≠some k
 kept:ab [v] w wr
 q:∀x∈PS,cm wr x.2.ao 6 kV x.1.st/\Kl w h1 h2 x
 ql:∀x∈PS,∀g,x.2.ao=some ⟨g,0,none⟩->g<wr.heap.size
variable {w wr w':World} {v b:Nat} {x0 x1:Value} {PS:List (jS×Hd)} {h1 h1':Hd} {RS:List ik} {h2 h2':Hd}
theorem oB(k:ab [] f x):ab [H] f x:=k.mono (by simp)
theorem vD.Vb(a:vD w wr v b x0 x1 PS h1 RS h2)(k:ab [] wr w'):vD w w' v b x0 x1 PS h1 RS h2 :=
 ⟨k.get a.d (by simp),a.lt,a.o1.Vb k,a.o2.Vb k,a.f1,a.f2,a.ap,a.kept.trans (oB k),fun x c=>⟨(a.q x c).1.Vb k,(a.q x c).2⟩,fun x c g e=>QX (a.ql x c g e) k.size⟩
theorem vD.jds(a:vD w wr v b x0 x1 PS h1 RS h2):Om wr v b x0 x1 PS h1.ao h1.cap RS h2.ao h2.cap :=
 ⟨a.d,a.o1.srcG NT,fun x c=>(a.q x c).1,a.o2.srcG xf⟩
theorem tK(e:S.ao=some ⟨H,0,none⟩):S.blk=some H:=by unfold Hd.blk;rw[e];rfl
theorem vD.addP(a:vD w wr v b x0 x1 PS i RS n)(x:jS×Hd)(G:cm wr x.2.ao 6 kV x.1.st)(D:Kl w i n x)(z:∀g,x.2.ao=some ⟨g,0,none⟩->g<wr.heap.size)(g:bt wr w' i h1')(o:aw w' h1' (fP (PS++[x])))(m:Nat)(E:m=PS.length+1) :
  vD w (w'.setCell ⟨v,3,none⟩ (.slice h1'.ao m h1'.cap)) v b x0 x1 (PS++[x]) h1' RS n:=by
 have A:v∉i.blk.toList:=fun c=>by have:=a.f1 _ (aN c);have:=a.lt;omega
 have C:=g.kept.get a.d A;have F:v<wr.heap.size:=ae a.d;have u:ab [v] w' (w'.setCell ⟨v,3,none⟩ (.slice h1'.ao m h1'.cap)):=(ab.refl _ _).setCell (Q1 (by simp)) _
 have l:∀k,h1'.blk=some k->w.heap.size<=k:=fun k f=>by
  rcases g.blk with e | ⟨q,e,c⟩
  ·exact a.f1 k (by rw[<-e];exact f)
  ·rw[f]at e;cases e;exact Q3 a.kept.size c
 have j:∀y∈PS++[x],cm wr y.2.ao 6 kV y.1.st/\Kl w i n y/\∀g,y.2.ao=some ⟨g,0,none⟩->g<wr.heap.size:=fun y p=>by
  rcases Rr.1 p with h | h
  ·exact⟨(a.q y h).1,(a.q y h).2,a.ql y h⟩
  ·rw[Q9]at h;subst h;exact⟨G,D,z⟩
 refine⟨?_,a.lt,?_,?_,l,a.f2,?_,?_,?_,?_⟩
 ·rw[ah C 3]
  congr 2
  rw[E,Q0];rfl
 ·exact o.Vk (fun k f e=>by have:=l k f;have:=a.lt;omega) _ _
 ·exact(g.beside a.o2 (fun k f c=>a.ap k c f)).Vk (fun k f e=>by have:=a.f2 k f;have:=a.lt;omega) _ _
 ·intro k f c
  rcases g.blk with e | ⟨q,e,z⟩
  ·exact a.ap k (by rw[<-e];exact f) c
  ·have:=a.o2.lt c
   rw[f]at e;cases e;omega
 ·refine⟨g.kept.os.trans a.kept.os,g.kept.tape.trans a.kept.tape,g.kept.output.trans a.kept.output,?_,fun k f B=>?_⟩
  ·exact Q3 (Q3 a.kept.size g.kept.size) u.size
  ·have i:=a.kept.size
   have n:=g.kept.size;rw[u.block k (by omega) B,g.kept.block k (by omega) (fun c=>by have:=a.f1 _ (aN c);omega),a.kept.block k f B]
 ·intro y p
  obtain⟨H,s,I⟩:=j y p;refine⟨(H.keptS g.kept (fun q e c=>(s q e).2.1 (aN c))).keptS u (fun q e c=>?_),fun q e=>⟨(s q e).1,fun c=>?_,(s q e).2.2⟩⟩
  ·have:=(s q e).1
   have:=a.lt;simp at c;omega
  ·rcases g.blk with t | ⟨r,t,z⟩
   ·exact(s q e).2.1 (by rw[<-t];exact c)
   ·have:=I q e
    rw[c]at t;cases t;omega
 ·intro y p q e
  have i:=(j y p).2.2 q e;have n:=g.kept.size;have J:=u.size;omega
theorem vD.addR(a:vD w wr v b x0 x1 PS s RS l)(x:ik)(g:bt wr w' l h2')(o:aw w' h2' (fM (RS++[x])))(m:Nat)(B:m=RS.length+1) :
  vD w (w'.setCell ⟨v,4,none⟩ (.slice h2'.ao m h2'.cap)) v b x0 x1 PS s (RS++[x]) h2':=by
 have t:v∉l.blk.toList:=fun c=>by have:=a.f2 _ (aN c);have:=a.lt;omega
 have z:=g.kept.get a.d t;have C:v<wr.heap.size:=ae a.d;have p:ab [v] w' (w'.setCell ⟨v,4,none⟩ (.slice h2'.ao m h2'.cap)):=(ab.refl _ _).setCell (Q1 (by simp)) _
 have h:∀k,h2'.blk=some k->w.heap.size<=k:=fun k f=>by
  rcases g.blk with e | ⟨q,e,c⟩
  ·exact a.f2 k (by rw[<-e];exact f)
  ·rw[f]at e;cases e;exact Q3 a.kept.size c
 refine⟨?_,a.lt,?_,?_,a.f1,h,?_,?_,?_,?_⟩
 ·rw[ah z 4]
  congr 2
  rw[B,Q0];rfl
 ·exact(g.beside a.o1 (fun k f c=>a.ap k f c)).Vk (fun k f e=>by have:=a.f1 k f;have:=a.lt;omega) _ _
 ·exact o.Vk (fun k f e=>by have:=h k f;have:=a.lt;omega) _ _
 ·intro k f c
  rcases g.blk with e | ⟨q,e,A⟩
  ·exact a.ap k f (by rw[<-e];exact c)
  ·have:=a.o1.lt f
   rw[c]at e;cases e;omega
 ·refine⟨g.kept.os.trans a.kept.os,g.kept.tape.trans a.kept.tape,g.kept.output.trans a.kept.output,?_,fun k f u=>?_⟩
  ·exact Q3 (Q3 a.kept.size g.kept.size) p.size
  ·have s:=a.kept.size
   have l:=g.kept.size;rw[p.block k (by omega) u,g.kept.block k (by omega) (fun c=>by have:=a.f2 _ (aN c);omega),a.kept.block k f u]
 ·intro y n
  obtain⟨D,i⟩:=a.q y n;have E:=a.ql y n;refine⟨(D.keptS g.kept (fun q e c=>(i q e).2.2 (aN c))).keptS p (fun q e c=>?_),fun q e=>⟨(i q e).1,(i q e).2.1,fun c=>?_⟩⟩
  ·have:=(i q e).1
   have:=a.lt;simp at c;omega
  ·rcases g.blk with j | ⟨r,j,A⟩
   ·exact(i q e).2.2 (by rw[<-j];exact c)
   ·have:=E q e
    rw[c]at j;cases j;omega
 ·intro y n q e
  have s:=a.ql y n q e;have l:=g.kept.size;have F:=p.size;omega
theorem Ps(a:List ik)(k:Nat)(h:k<a.length)(u:Int):(a.flatMap jJ).set (k*6+1) (.int .i64 u)=(a.set k { ff a k with Vc:=u }).flatMap jJ:=by
 induction a generalizing k with
 | nil=>simp at h
 | cons r a c =>
  cases k with
  | zero=>rfl
  | succ k =>
   have e:(k+1)*6+1=6+(k*6+1):=by omega
   have b:ff (r :: a) (k+1)=ff a k:=rfl;rw[b,SB,RI,RI,<-c k (by simpa using h),e,SS _ _ (by rw[xf];omega),xf]
   congr 2
   omega
theorem vD.put(a:vD w wr v b x0 x1 PS h1 RS h2)(i:h2.ao=some ⟨H,0,none⟩)(k:Nat)(o:k<RS.length)(u:Int):vD w (wr.setCell ⟨H,k*6+1,none⟩ (.int .i64 u)) v b x0 x1 PS h1 (RS.set k { ff RS k with Vc:=u }) h2:=by
 have h:=tK i;have m:=a.f2 H h;have l:=a.o2.lt h;have p:=a.lt;have c:ab [H] wr (wr.setCell ⟨H,k*6+1,none⟩ (.int .i64 u)):=(ab.refl _ _).setCell (Q1 (by simp)) _;refine⟨?_,a.lt,?_,?_,a.f1,a.f2,a.ap,?_,?_,?_⟩
 ·rw[c.get a.d (by simp;omega),Rv]
 ·exact a.o1.Vk (fun q f e=>a.ap q f (by rw[e];exact h)) _ _
 ·have:=a.o2.putAt i (k*6+1) (.int .i64 u)
  have e:(⟨(fM RS).e,(fM RS).size,(fM RS).n,(fM RS).xs.set (k*6+1) (.int .i64 u)⟩:dN)=fM (RS.set k { ff RS k with Vc:=u }):=by
   show(⟨_,_,RS.length,(RS.flatMap jJ).set (k*6+1) (.int .i64 u)⟩:dN)=_
   rw[Ps RS k o u];unfold fM kU;rw[Rv]
  rw[e]at this;exact this
 ·exact⟨c.os.trans a.kept.os,c.tape.trans a.kept.tape,c.output.trans a.kept.output,Q3 a.kept.size c.size,fun q f r=>by
   have:=a.kept.size;rw[c.block q (by omega) (by simp;omega),a.kept.block q f r]⟩
 ·intro y g
  exact⟨(a.q y g).1.keptS c (fun q e f=>by simp at f;subst f;exact((a.q y g).2 q e).2.2 h),(a.q y g).2⟩
 ·intro y g q e
  exact QX (a.ql y g q e) c.size
end Go.Proofs.YtpddjjabfbfifaaGreat
