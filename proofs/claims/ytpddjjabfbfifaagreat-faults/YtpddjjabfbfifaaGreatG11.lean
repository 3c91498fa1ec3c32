import Derived.Deep.RegionLaw
import Derived.Test.YtpddjjabfbfifaaGreatG10
namespace Go.Proofs.YtpddjjabfbfifaaGreat
open Go.RowKit Tryz
set_option maxHeartbeats 0
variable{T d yu:World}{o:Sl}{y D:Hd}{n a I:Nat}{yr:List Sl}{y8:List ByteArray}{yt:List Nat}{g s u:Value}{y9:jS}{i:Fs}{y7:Bool}{yf:dN}{c:List (jS×Hd)}{yy:Option Addr}{ya:List Bool}(k x f:Nat)(H:List Tk)(M:Option Addr)(N:Nat)(l:List Sm)(yv:Nat)(z7:List ByteArray)(yd:List (List ByteArray))(yg:List (jS×Hd))(L:Option Addr)(y6:List Bool)(ys S:Nat)(yz:jS×Hd)
def LH(T:List Tk)(S:List Sm)(hs:List Nat)(M:List (List ByteArray))(V:List ByteArray)(B:List (List ByteArray))(i:Nat):Int :=
 if GI S hs i=true then(if(((M.getD i []).getD 0 ⟨#[]⟩).toList==((cI T S (hs.getD i 0)).getD 0 ⟨#[]⟩).toList)=true then 0 else 7)
 else if oc (iU V B (cI T S (hs.getD i 0))) (M.getD i [])=true then 0 else 8
def OE(T:List Tk)(S:List Sm)(a:Nat)(V:List ByteArray)(B:List (List ByteArray))(p:ByteArray×ByteArray):Bool:=tL T S a (iU V B [p.1]) (iU V B [p.2])
def pP(T:List Tk)(S:List Sm)(a c:Nat)(hs:List Nat)(M:List (List ByteArray))(V:List ByteArray)(B:List (List ByteArray)):Int :=
 if(dJ (LH T S hs M V B) hs.length==0)=false then dJ (LH T S hs M V B) hs.length else if(fH T S c).all (OE T S a V B)=true then 0 else 9
theorem pR(x:ByteArray)(N:Nat)(a:∀l∈yd,l.length<=N)(b:1<=N):(iU z7 yd [x]).length<=N:=by
 unfold iU;rw[RI,List.flatMap_nil,Rl];unfold LZ
 split
 ·rw[QQ]
  cases h:yd[wt z7 x]? with
  | none=>simp
  | some l=>exact a l (R4 h)
 ·simpa using b
theorem NZ(b:∀l∈yd,l.length<=S)(c:1<=S)(e:List ByteArray):(iU z7 yd e).length<=S*e.length:=by
 induction e with
 | nil=>exact Ro _
 | cons x e f =>
  have d:=pR z7 yd x S b c;have a:iU z7 yd (x :: e)=iU z7 yd [x]++iU z7 yd e:=by unfold iU;simp
  rw[a,Q0,Rp,Nat.mul_succ];omega
theorem yX(a:z7.length<=10000)(k:Nat):(lg H l yv z7 k).length<=10000*k:=by
 induction k with
 | zero=>simp[lg]
 | succ k b =>
  have:=EY H l yv z7 k z7.length;rw[wO,Q0];omega
theorem Jd(c:S<=10000):(fH H l S).length<=100000000:=by
 have a:=kj H l S
 have b:(fO H l (bW H l S) (bW H l S).length).length<=(bW H l S).length:=by
  unfold fO;rw[Ri,RK];exact Sc _ _
 have:=yX H l S (fO H l (bW H l S) (bW H l S).length) (by omega) (fO H l (bW H l S) (bW H l S).length).length;unfold fH;omega
set_option maxRecDepth 100000
theorem IQ(b:List Nat)(bz:Option Addr)(cH:Nat)(A:List Sl)(bc:Option Addr)(cA:Nat)(V:List ByteArray)(G:Option Addr)(cV:Nat)(B:List Sl)(F:Option Addr)(cB:Nat)(w:World)(hD:fz w k H M N l L S)(ok:nK H l x)(c6:f<x)(c5:bS (au l f).k=false)(hH:qD w bz b)(C:∀j∈b,j<x/\bS (au l j).k=false)(d6:b.length<=10000)(hA:cm w bc 1 Ff A)(b0:pa w A)(b1:∀s∈A,ge w s.ao s.L)(d5:b.length<=A.length)(d4:A.length<=100000)(hF:∀i,i<b.length->GI l b i=true->1<(cI H l (b.getD i 0)).length)(hN:∀s∈A,0<s.L.length/\s.L.length<=10000)(hV:ge w G V)(hB:cm w F 1 Ff B)(b2:pa w B)(c4:V.length<=B.length)(c0:B.length<=100000)(bd:∀s∈B,s.L.length<=10000) :
  Calls prog 178 #[.pointer (some ⟨k,0,none⟩),.int .i64 x,.int .i64 f,.slice bz b.length cH,.slice bc A.length cA,.agg #[.slice G V.length cV,.slice F B.length cB]] w fun e r=>e=.returned (.int .i64 (pP H l x f b (A.map (·.L)) V (B.map (·.L))))/\ab [] w r:=by
 obtain⟨W,HW⟩:∃W,Hid (w.alloc (.cells #[.slice G V.length cV,.slice F B.length cB] 271)=W):=⟨_,rfl⟩
 have BW:W.heap[w.heap.size]?=some (.cells #[.slice G V.length cV,.slice F B.length cB] 271 (0,0)):=by rw[<-HW.out];exact QS _ _
 have o:Hid (ab [] w W):=by show ab [] w W;rw[<-HW.out];exact(ab.refl [] _).alloc _
 have hn:=ok.ok.m;have d9:=ok.sm;have ea:=ok.tm;have bj:Hid _:=BW;have HD:Hid _:=hD.Vb o.out;have a6:Hid _:=ok;have HH:Hid _:=hH.Vb o.out;have cl:Hid _:=C;have HA:Hid _:=hA.Vb o.out;have d0:Hid _:=b0.Vb o.out;have cj:Hid (∀s∈A,∀Z,ab [] w Z->ge Z s.ao s.L):=fun s b Z kx=>(b1 s b).Vb kx
 have HF:Hid _:=hF;have HN:Hid _:=hN;obtain⟨K,bo⟩:∃K,Hid (A.map (·.L)=K):=⟨_,rfl⟩
 obtain⟨d,aS⟩:∃d,Hid (B.map (·.L)=d):=⟨_,rfl⟩
 have a7:Hid (∀(E:List ByteArray) (ad:Option Addr) (cE:Nat) (Z:World),ab [] w Z->ge Z ad E->E.length<=10000->Calls prog 179 #[.agg #[.slice G V.length cV,.slice F B.length cB],.slice ad E.length cE] Z fun e r=>∃h',e=.returned (.slice h'.ao (iU V d E).length h'.cap)/\gw Z r h' (aB (iU V d E))):=fun E ad cE Z kx hE hl=>by rw[<-aS.out];exact CN V G cV B F cB E ad cE Z (hV.Vb kx) (hB.Vb kx) (b2.Vb kx) c4 c0 hE hl bd
 have T:Hid (∀dT∈d,dT.length<=10000):=fun dT hl=>by
  rw[<-aS.out]at hl;obtain⟨s,b,rfl⟩:=Si.1 hl;exact bd s b
 have co:Hid (∀a,a<A.length->K.getD a []=(fQ A a).L):=fun a hk=>by rw[<-bo.out];exact wF A a hk
 rw[bo.out,aS.out];have cq:Hid _:=wI k f H M N l L S;have ck:Hid (cU H (au l f).h):=ok.e f c6 c5;have HR:Hid (pP H l x f b K V d=if(dJ (LH H l b K V d) b.length==0)=false then dJ (LH H l b K V d) b.length else if(fH H l f).all (OE H l x V d)=true then 0 else 9):=rfl;clear hD ok hH C hA b0 b1 hF hN hV hB b2 bd;go_enter func178,ntmps178
 go_upto_region 1 with fail
 rw[HW.out];go_wp2
 go_loopg [13] b.length (fun g i wr=>∃a:Nat,a<=b.length/\g=b.length-a/\i=.int .i64 a/\Hid (dJ (LH H l b K V d) a=0)/\Hid (ab [] W wr))
 case atStart=>exact⟨0,by omega,rfl,rfl,rfl,ab.refl _ _⟩
 case round =>
  obtain⟨a,hk,hg,rfl,HZ,HK⟩:=hrel;have d1:Hid _:=o.out.trans HK.out
  by_cases C:a<b.length
  ·have db:(a:Int)<(b.length:Int):=by omega
   obtain⟨c9,cb⟩:=cl.out b[a] (Rb C);have U:b[a]<l.length:=by omega
   have bf:b.getD a 0=b[a]:=by rw[QQ,QP C];rfl
   obtain⟨gH,rfl,c8,cR⟩:=(qD.Vb HH.out HK.out) a b[a] (QP C);have az:Hid (Calls prog 72 #[.pointer (some ⟨k,0,none⟩),.int .i64 ((b[a]:Nat):Int)] wr fun e r=>∃h',e=.returned (.slice h'.ao (bu H l[b[a]].h).length h'.cap)/\vj wr r h' (bu H l[b[a]].h)):=kD k b[a] H M N l _ S wr (fz.Vb HD.out HK.out) U (by omega) (by rw[bM l b[a] U];exact a6.out.e b[a] c9 cb);have bk:Hid (bu H l[b[a]].h=cI H l (b.getD a 0)):=by show _=_;unfold cI;rw[bf,bM l b[a] U]
   have b4:=kg H l[b[a]].h;rw[bk.out]at az b4;have bs:Hid (GI l b a=(l[b[a]].k.toList == [36,102])):=by show _=_;unfold GI;rw[bf,bM l b[a] U]
   have a0:Hid _:=HF.out a C
   have ct:Hid (∀r:World,ab [] W r->r.cell? ⟨gH,a,none⟩=some (.int .i64 ((b[a]:Nat):Int))/\gH<r.heap.size/\∃gs,L=some ⟨gs,0,none⟩/\gs<r.heap.size/\r.cell? ⟨k,1,none⟩=some (.slice L l.length S)/\k<r.heap.size/\r.cell? ⟨gs,b[a]*4+3,none⟩=some (.string l[b[a]].k)):=fun r kw=>by
    obtain⟨g2,e2,h2,c2⟩:=(qD.Vb HH.out kw) a b[a] (QP C)
    cases e2
    have hd:=fz.Vb HD.out kw;obtain⟨-,s0,hb⟩:=hd.cells;obtain⟨gs,e3,af,-,-,-,q3⟩:=hd.s.2 b[a] l[b[a]] (QP U);exact⟨c2,h2,gs,e3,af,s0,hb,q3⟩
   have ag:a<A.length:=by omega
   have c:Hid (LH H l b K V d a=if GI l b a=true then(if(((fQ A a).L.getD 0 ⟨#[]⟩).toList==((cI H l (b.getD a 0)).getD 0 ⟨#[]⟩).toList)=true then 0 else 7) else if oc (iU V d (cI H l (b.getD a 0))) (fQ A a).L=true then 0 else 8):=by show _=_;unfold LH;rw[co.out a ag]
   have v:Hid ((LH H l b K V d a==0)=false->pP H l x f b K V d=LH H l b K V d a):=fun h=>by
    have:=ou HZ.out h C;rw[HR.out,this,QW h]
   have ac:Hid (LH H l b K V d a=0->dJ (LH H l b K V d) (a+1)=0):=fun h=>by rw[dJ,HZ.out];exact h
   rw[bs.out]at c a0;clear bk bs bf cb;have ei:((b[a]:Nat):Int)<(l.length:Int):=by omega
   have eh:(0:Int)<=((b[a]:Nat):Int):=by omega
   obtain⟨X,HX⟩:∃X,Hid (cI H l (b.getD a 0)=X):=⟨_,rfl⟩
   rw[HX.out]at az b4 c a0;generalize l[b[a]].k=sk at *;generalize b[a]=j at *
   go_upto_region 5 with (go_at_call 72;refine QU az.out ?_;rintro e w1 ⟨h1,rfl,x1⟩)
   have a2:Hid _:=HK.out.trans x1.kept;have bw:Hid _:=x1.own.srcX;obtain⟨bT,al,gs,rfl,af,s0,b6,q3⟩:=ct.out w1 a2.out;obtain⟨a1,c1⟩:=h1;clear cR c8 x1;have b3:=HN.out (fQ A a) (jK A a ag);have R:Hid _:=cj.out (fQ A a) (jK A a ag);have ax:Hid (∀r:World,ab [] W r->∃gA,bc=some ⟨gA,0,none⟩/\gA<r.heap.size/\r.cell? ⟨gA,a,none⟩=some (.slice (fQ A a).ao (fQ A a).L.length (fQ A a).cap)):=fun r kw=>cm.sl (cm.Vb HA.out kw) a ag
   have dv:(a:Int)<(A.length:Int):=by omega
   generalize fQ A a=s at *;obtain⟨ds,ch,sL⟩:=s;simp only at R ax b3 c;obtain⟨c3,d7⟩:=b3
   cases hf:(sk.toList == [36,102])
   ·rw[hf,QT (by simp)]at c
    go_quiet (fail)
    obtain⟨O,J⟩:∃O,Hid (w1.drewN nq=O):=⟨_,rfl⟩
    go_upto_region 8 with fail
    rw[J.out];have k2:ab [] w1 O:=by rw[<-J.out];exact(ab.refl [] w1).drewN nq
    have n:Hid _:=a2.out.trans k2;have BR:=n.out.get bj.out (by simp);have r0:O.cell? ⟨w.heap.size,0,none⟩=some (.slice G V.length cV):=by rw[aa BR];rfl
    have r1:O.cell? ⟨w.heap.size,1,none⟩=some (.slice F B.length cB):=by rw[aa BR];rfl
    have dp:=ae BR;have Q:Hid _:=(a7.out X a1 c1 O (o.out.trans n.out) (ge.Vb bw.out k2) (by omega));have dk:=NZ V d 10000 T.out (by omega) X;obtain⟨Y,HY⟩:∃Y,Hid (iU V d X=Y):=⟨_,rfl⟩
    rw[HY.out]at Q c dk;clear bT al af s0 b6 q3 J
    go_upto_region 9 with (go_at_call 179;refine QU Q.out ?_;rintro e w3 ⟨h3,rfl,x3⟩)
    have D:Hid _:=n.out.trans x3.kept;obtain⟨gA,rfl,c7,cL⟩:=ax.out w3 D.out;have ba:Hid _:=(C0 Y sL h3.ao ds h3.cap ch w3 x3.own.srcX (R.out w3 (o.out.trans D.out)) (by omega));obtain⟨sm,cF⟩:∃sm,Hid (oc Y sL=sm):=⟨_,rfl⟩
    rw[cF.out]at ba c;clear x3 r0 r1 dp
    cases sm
    ·rw[QT (by simp)]at c
     have I:Hid _:=(v.out (by rw[c.out];rfl));rw[c.out]at I;go_wp2_with (go_at_call 133;refine QU ba.out ?_;rintro e w4 ⟨rfl,k4⟩;have u:Hid _:=D.out.trans k4;clear k4);go_ret;exact⟨QN I.out.symm,o.out.trans u.out⟩
    ·rw[QW rfl]at c
     have I:Hid _:=ac.out c.out;go_wp2_with (go_at_call 133;refine QU ba.out ?_;rintro e w4 ⟨rfl,k4⟩;have u:Hid _:=D.out.trans k4;clear k4)
     go_roundg (b.length-(a+1))
     case measure=>omega
     case rel=>exact⟨a+1,by omega,rfl,by go_num,I,u⟩
   ·rw[hf,QW rfl]at c
    have ec:=a0.out hf;obtain⟨gX,eX,ca,cX⟩:=bw.out 0 _ (mm X 0 (by omega));replace eX:a1=some ⟨gX,0,none⟩:=eX;subst eX
    go_quiet (fail)
    obtain⟨O,J⟩:∃O,Hid (w1.drewN nq=O):=⟨_,rfl⟩
    go_upto_region 6 with fail
    rw[J.out];have k2:ab [] w1 O:=by rw[<-J.out];exact(ab.refl [] w1).drewN nq
    have n:Hid _:=a2.out.trans k2;obtain⟨gA,rfl,c7,cL⟩:=ax.out O n.out;obtain⟨g0,es,ef,d2⟩:=R.out O (o.out.trans n.out) 0 _ (mm sL 0 c3);subst es;have d3:O.cell? ⟨gX,0,none⟩=some (.string (X.getD 0 ⟨#[]⟩)):=by rw[Q6 (k2.block gX ca (by simp))];exact cX
    have dt:=QX ca k2.size;have eb:(0:Int)<(X.length:Int):=by omega
    have dz:(0:Int)<(sL.length:Int):=by omega
    generalize sL.getD 0 ⟨#[]⟩=ai at *;generalize X.getD 0 ⟨#[]⟩=y at *;clear bT al af s0 b6 q3 J cX k2 nq
    cases cf:(ai.toList==y.toList)
    ·rw[cf,QT (by simp)]at c
     have I:Hid _:=(v.out (by rw[c.out];rfl));rw[c.out]at I
     go_quiet (fail)
     have u:Hid _:=n.out.trans ((ab.refl [] O).drewN nq);go_wp2;go_ret;exact⟨QN I.out.symm,o.out.trans u.out⟩
    ·rw[cf,QW rfl]at c
     have I:Hid _:=ac.out c.out
     go_quiet (fail)
     have u:Hid _:=n.out.trans ((ab.refl [] O).drewN nq);go_wp2
     go_roundg (b.length-(a+1))
     case measure=>omega
     case rel=>exact⟨a+1,by omega,rfl,by go_num,I,u⟩
  ·have e:a=b.length:=by omega
   subst e;rw[HZ.out,QT (by decide)]at HR;have db:¬(b.length:Int)<(b.length:Int):=by omega
   have Q:Hid _:=(cq.out wr (fz.Vb HD.out HK.out) (a6.out.mono (by omega)) (by omega) ck.out);obtain⟨t,br⟩:∃t,Hid (fH H l f=t):=⟨_,rfl⟩
   rw[br.out]at Q HR
   go_upto_region 13 with (go_at_call 64;refine QU Q.out ?_;rintro e w2 ⟨h2,rfl,x2⟩)
   have n:Hid _:=HK.out.trans x2.kept;have cu:Hid _:=x2.own.srcG LY;have d8:t.length<=100000000:=by rw[<-br.out];exact Jd H l f (by omega)
   obtain⟨ap,cp⟩:=h2;clear x2 Q HZ;go_wp2
   go_loopg [18] t.length (fun g i wr=>∃m:Nat,m<=t.length/\g=t.length-m/\i=.int .i64 m/\Hid (∀q (P:q<t.length),q<m->OE H l x V d t[q]=true)/\Hid (ab [] w2 wr))
   case atStart=>exact⟨0,by omega,rfl,rfl,(fun q _ h=>by omega),ab.refl _ _⟩
   case round =>
    obtain⟨m,hm,eg,rfl,bg,D⟩:=hrel;have u:Hid _:=n.out.trans D.out
    by_cases ar:m<t.length
    ·have df:(m:Int)<(t.length:Int):=by omega
     obtain⟨gP,eP,be,cP⟩:=cu.out m t[m] (QP ar);subst eP
     have bl:Hid (∀r:World,ab [] w2 r->r.cell? ⟨gP,m*2,none⟩=some (.string t[m].1)/\r.cell? ⟨gP,m*2+1,none⟩=some (.string t[m].2)/\gP<r.heap.size/\r.cell? ⟨w.heap.size,0,none⟩=some (.slice G V.length cV)/\r.cell? ⟨w.heap.size,1,none⟩=some (.slice F B.length cB)/\w.heap.size<r.heap.size):=fun r kw=>by
      have BR:=(n.out.trans kw).get bj.out (by simp);exact⟨by rw[Q6 (kw.block gP be (by simp))];exact cP 0 _ rfl,by rw[Q6 (kw.block gP be (by simp))];exact cP 1 _ rfl,QX be kw.size,by rw[aa BR];rfl,by rw[aa BR];rfl,ae BR⟩
     have bp:Hid (OE H l x V d t[m]=tL H l x (iU V d [t[m].1]) (iU V d [t[m].2])):=rfl
     have v:Hid (OE H l x V d t[m]=false->pP H l x f b K V d=9):=fun h=>by
      rw[HR.out,QT];rw[Sn];intro b5;have:=b5 t[m] (Rb ar);rw[h]at this;cases this
     have ac:Hid (OE H l x V d t[m]=true->∀q (P:q<t.length),q<m+1->OE H l x V d t[q]=true):=fun h q P h2=>by
      by_cases e:q=m
      ·subst e;exact h
      ·exact bg.out q P (by omega)
     generalize OE H l x V d t[m]=mp at *;generalize t[m].1=ai at *;generalize t[m].2=y at *;clear cP;obtain⟨cx,cy,an,v0,v1,cc⟩:=bl.out wr D.out;have dl:=pR V d ai 10000 T.out (by omega);have ej:=pR V d y 10000 T.out (by omega)
     have bv:Hid (ge (wr.alloc (.cells #[.string ai] 9)).drew (some ⟨wr.heap.size,0,none⟩) [ai]):=by
      intro q z P;have hk:(wr.alloc (.cells #[.string ai] 9)).drew.heap[wr.heap.size]?=some (.cells #[.string ai] 9 (0,0)):=QS _ _;refine⟨_,rfl,ae hk,?_⟩;rw[aa hk]
      match q,P with
      | 0,P=>simp at P;subst P;rfl
     go_upto_region 16 with fail
     go_region_with (go_at_call 179;refine(a7.out [ai] (some ⟨wr.heap.size,0,none⟩) 1 _ (by exact((o.out.trans u.out).alloc _).drew) (by exact bv.out) (by simp)).mono ?_;rintro e w5 ⟨h5,rfl,x5⟩)
     all_goals
      have a3:Hid (ab [] w2 w5):=((D.out.alloc _).drew).trans x5.kept;have bx:Hid _:=x5.own.srcX;obtain⟨PX,cs⟩:∃PX,Hid (iU V d [ai]=PX):=⟨_,rfl⟩
      rw[cs.out]at bx dl bp ⊢
      have cz:Hid (ge (w5.alloc (.cells #[.string y] 9)).drew (some ⟨w5.heap.size,0,none⟩) [y]):=by
       intro q z P;have hk:(w5.alloc (.cells #[.string y] 9)).drew.heap[w5.heap.size]?=some (.cells #[.string y] 9 (0,0)):=QS _ _;refine⟨_,rfl,ae hk,?_⟩;rw[aa hk]
       match q,P with
       | 0,P=>simp at P;subst P;rfl
      clear cx cy an v0 v1 cc x5 bv;obtain⟨cx,cy,an,v0,v1,cc⟩:=bl.out w5 a3.out
      go_upto_region 17 with fail
      go_region_with (go_at_call 179;refine(a7.out [y] (some ⟨w5.heap.size,0,none⟩) 1 _ (by exact(((o.out.trans n.out).trans a3.out).alloc _).drew) (by exact cz.out) (by simp)).mono ?_;rintro e w6 ⟨h6,rfl,x6⟩)
      all_goals
       have a4:Hid (ab [] w2 w6):=((a3.out.alloc _).drew).trans x6.kept;have aT:Hid _:=(Hz k x PX (iU V d [y]) h5.ao h6.ao h5.cap h6.cap H M N l L S w6 (fz.Vb HD.out (n.out.trans a4.out)) a6.out (ge.Vb bx.out ((((ab.refl [] w5).alloc _).drew).trans x6.kept)) x6.own.srcX (by omega) (by omega));rw[<-bp.out]at aT;clear x6
       cases mp
       ·have I:Hid _:=v.out rfl
        go_wp2_with (go_at_call 214;refine QU aT.out ?_;rintro e w7 ⟨rfl,k7⟩;have a5:Hid _:=(n.out.trans a4.out).trans k7;clear k7);go_ret;exact⟨QN I.out.symm,o.out.trans a5.out⟩
       ·have I:Hid _:=ac.out rfl
        go_wp2_with (go_at_call 214;refine QU aT.out ?_;rintro e w7 ⟨rfl,k7⟩;have a5:Hid _:=a4.out.trans k7;clear k7)
        go_roundg (t.length-(m+1))
        case measure=>omega
        case rel=>exact⟨m+1,by omega,rfl,by go_num,I,a5⟩
    ·have em:m=t.length:=by omega
     have I:Hid (pP H l x f b K V d=0):=by
      show _=_
      rw[HR.out,QW];rw[Sn];intro p hp;obtain⟨q,P,e⟩:=R0 hp;rw[<-e];exact bg.out q P (by omega)
     have df:¬(m:Int)<(t.length:Int):=by omega
     go_wp2;go_ret;exact⟨QN I.out.symm,o.out.trans u.out⟩
def ui(T:List Tk)(S:List Sm)(a:Nat)(P:List dj)(i:Nat)(M:List (List ByteArray)):List ByteArray×Int :=
 if(bO P i).ref=-2 then(M.getD (bO P i).back [],0)
 else if aC (au S (bO P i).ref.toNat).k=false then(if 32<(cI T S (bO P i).ref.toNat).length then([],10) else(cI T S (bO P i).ref.toNat,0))
 else if dS P i<0 then([],6)
 else
  let hs:=bW T S (bO P i).ref.toNat
  let on:=(mJ P i).map (fun q=>M.getD q [])
  let why:=pP T S a (bO P i).ref.toNat hs on (gK T S hs hs.length) (gi S hs on hs.length)
  if(why==0)=false then([],why)
  else if 32<(iU (gK T S hs hs.length) (gi S hs on hs.length) (cI T S (bO P i).ref.toNat)).length then([],10)
  else(iU (gK T S hs hs.length) (gi S hs on hs.length) (cI T S (bO P i).ref.toNat),0)
structure oo(w:World)(s:Sl):Prop where
 ok:pr w s
 x:ge w s.ao s.L
 pos:0<s.L.length
 le:s.L.length<=10000
theorem oo.Vb(h:oo T o)(k:ab [] T d):oo d o:=⟨h.ok.Vb k,h.x.Vb k,h.pos,h.le⟩
def Kk(T:List Tk)(S:List Sm)(n:Nat):Prop:=∀j,j<n->(aC (au S j).k||aG (au S j).k)=true->0<(cI T S j).length/\(((au S j).k.toList == [36,102])=true->1<(cI T S j).length)
structure Kv(T:List Tk)(S:List Sm)(a:Nat)(P:List dj)(i:Nat):Prop where
 Vm:((bO P i).ref=-2/\(bO P i).back<i)∨∃r,r<a/\(bO P i).ref=(r:Nat)/\(aC (au S r).k||aG (au S r).k)=true/\(aC (au S r).k=true->(bO P i).need=(bW T S r).length)
theorem yG:∀j∈bW H l S,j<S/\bS (au l j).k=false/\aG (au l j).k=true:=fun j c=>by
 have b:=sK H l S j c;have a:=(RH.1 c).2;unfold sJ at a;rw[Rg,RB,Rg]at a
 rcases a.2 with h | ⟨h,-⟩
 ·exact⟨b,fX h (by decide),by unfold aG;rw[h];simp⟩
 ·exact⟨b,fX h (by decide),by unfold aG;rw[h];simp⟩
def Ku(w:World)(A:List Sl)(r:List ByteArray×Int)(e:Ending)(w':World):Prop:=∃s:Sl,e=.returned (.tuple #[.slice s.ao s.L.length s.cap,.int .i64 r.2])/\s.L=r.1/\((r.2==0)=true->oo w' s)/\(s∈A∨∀q o,s.ao=some ⟨q,o,none⟩->w.heap.size<=q)/\ab [] w w'
theorem KN(e:y.ao=some ⟨n,a,none⟩):y.blk=some n:=by unfold Hd.blk;rw[e];rfl
theorem qy{r:List ByteArray×Int}{e:Ending}(a:r.1=[])(b:(r.2==0)=false)(c:e=.returned (.tuple #[.slice none 0 0,.int .i64 r.2]))(k:ab [] T d):Ku T yr r e d :=
 ⟨⟨none,0,[]⟩,c,a.symm,fun h=>(by rw[b]at h;cases h),QV (fun q o e=>by cases e),k⟩
theorem gw.sh(a:gw T d y (aB y8))(b:0<y8.length)(c:y8.length<=10000):oo d ⟨y.ao,y.cap,y8⟩:=⟨a.sl,a.own.srcX,b,c⟩
theorem xK{α:Type}(R:List Nat)(f:Nat->α)(k:Nat)(h:k<R.length):(R.take (k+1)).map f=(R.take k).map f++[f R[k]]:=by
 rw[RG h,Ry];rfl
theorem Lq{x:ByteArray}(h:aJ y8 x=false):wt y8 x=y8.length:=by
 refine Lp rfl (fun j a _=>?_);unfold aJ at h;rw[TH]at h;have:=h y8[j] (Rb a);simpa using this
theorem N0{B:List (List ByteArray)}{X:List ByteArray}(a:0<X.length)(h:aJ y8 (X.getD 0 ⟨#[]⟩)=false):0<(iU y8 B X).length:=by
 cases X with
 | nil=>simp at a
 | cons x X =>
  have e:(x :: X).getD 0 ⟨#[]⟩=x:=rfl;rw[e]at h;unfold iU;rw[RI,Q0];unfold LZ;rw[Lq h,QT (by omega)];simp;omega
theorem Jo{S:List Sm}{M:List (List ByteArray)}(h:∀l∈M,l.length<=a):∀l∈gi S yt M n,l.length<=a:=by
 intro l b;unfold gi at b;obtain⟨i,-,rfl⟩:=Si.1 b;rw[RT,QQ]
 cases e:M[i]? with
 | none=>simp
 | some m=>have:=h m (R4 e);show m.length-1<=a;omega
def OL(T:List Tk)(S:List Sm)(n:Nat):Prop:=∀r,r<n->aC (au S r).k=true->aJ (gK T S (bW T S r) (bW T S r).length) ((cI T S r).getD 0 ⟨#[]⟩)=false
theorem JL(P:List dj)(ax:Option Addr)(cP:Nat)(y:Int)(pf:ByteArray)(pl pc:Int)(A:List Sl)(dl:Option Addr)(cA:Nat)(w:World)(hD:fz w k H M N l L S)(ok:nK H l x)(hB:Kk H l x)(d1:OL H l x)(hn:x<l.length)(hP:cm w ax 6 kV P)(dT:P.length<=100000000)(bc:M0 P)(hi:f<P.length)(d0:Kv H l x P f)(hA:cm w dl 1 Ff A)(dp:∀s∈A,oo w s)(e9:A.length=f) :
  Calls prog 131 #[.pointer (some ⟨k,0,none⟩),.int .i64 x,.agg #[.slice ax P.length cP,.int .i64 y,.string pf,.int .i64 pl,.int .i64 pc],.int .i64 f,.slice dl A.length cA] w fun e w'=>Ku w A (ui H l x P f (A.map (·.L))) e w':=by
 obtain⟨W,HW⟩:∃W,Hid (w.alloc (.cells #[.slice ax P.length cP,.int .i64 y,.string pf,.int .i64 pl,.int .i64 pc] 122)=W):=⟨_,rfl⟩
 have BW:W.heap[w.heap.size]?=some (.cells #[.slice ax P.length cP,.int .i64 y,.string pf,.int .i64 pl,.int .i64 pc] 122 (0,0)):=by rw[<-HW.out];exact QS _ _
 have cV:Hid (ab [] w W):=by show ab [] w W;rw[<-HW.out];exact(ab.refl [] _).alloc _
 have p0:W.cell? ⟨w.heap.size,0,none⟩=some (.slice ax P.length cP):=by rw[aa BW];rfl
 have e2:=ae BW;have fq:(f:Int)<(P.length:Int):=by omega
 obtain⟨gP,rfl,eT,q0,q1,q2,q3,q4,q5⟩:=cm.step (hP.Vb cV.out) f hi;have HP:Hid _:=hP;have HD:Hid _:=hD;have ai:Hid _:=ok;have cB:Hid _:=hB;have ex:Hid _:=d1;have HA:Hid _:=hA;have ct:Hid _:=dp;have fd:=ok.sm;have fi:=ok.tm;have e8:Hid _:=bc;obtain⟨cb,cX⟩:∃cb,Hid (A.map (·.L)=cb):=⟨_,rfl⟩
 have c0:Hid (∀c,c<A.length->cb.getD c []=(fQ A c).L):=fun c hk=>by rw[<-cX.out];exact wF A c hk
 rw[cX.out];have eb:Hid _:=tJ P (some ⟨gP,0,none⟩) cP y pf pl pc dT bc (f+1) f;have c3:Hid (∀b,cm b (some ⟨gP,0,none⟩) 6 kV P->0<=dS P f->Calls prog 102 #[.agg #[.slice (some ⟨gP,0,none⟩) P.length cP,.int .i64 y,.string pf,.int .i64 pl,.int .i64 pc],.int .i64 f] b fun e w'=>∃g,e=.returned (.slice (some ⟨g,0,none⟩) (bO P f).need (bO P f).need)/\nG w' g (mJ P f)/\ab [] b w'):=fun b h1 h2=>Jx P _ cP y pf pl pc f b dT bc hi h1 h2
 have ar:Hid _:=Jy P f;have c2:Hid _:=Mj P f
 have a:Hid (ui H l x P f cb=if(bO P f).ref=-2 then(cb.getD (bO P f).back [],0)
  else if aC (au l (bO P f).ref.toNat).k=false then(if 32<(cI H l (bO P f).ref.toNat).length then([],10) else(cI H l (bO P f).ref.toNat,0))
  else if dS P f<0 then([],6)
  else
   let i:=bW H l (bO P f).ref.toNat
   let on:=(mJ P f).map (fun q=>cb.getD q [])
   let C:=pP H l x (bO P f).ref.toNat i on (gK H l i i.length) (gi l i on i.length)
   if(C==0)=false then([],C)
   else if 32<(iU (gK H l i i.length) (gi l i on i.length) (cI H l (bO P f).ref.toNat)).length then([],10)
   else(iU (gK H l i i.length) (gi l i on i.length) (cI H l (bO P f).ref.toNat),0)):=rfl
 have a0:=d0.Vm;have d9:Hid _:=BW;clear d0 hD ok hB hP hA dp bc d1;obtain⟨iL,eV,d6,d7,d8⟩:=Re Ej;generalize bO P f=st at *;obtain⟨sr,sb,Q,sf,sl,sc⟩:=st;simp only at q0 q1 q2 q3 q4 q5 a0 a c3 ar;obtain⟨W1,a6⟩:∃W1,Hid (W.alloc (.cells #[.int .i64 sr,.int .i64 (sb:Int),.int .i64 (Q:Int),.string sf,.int .i64 sl,.int .i64 sc] 162)=W1):=⟨_,rfl⟩
 have B1:W1.heap[W.heap.size]?=some (.cells #[.int .i64 sr,.int .i64 (sb:Int),.int .i64 (Q:Int),.string sf,.int .i64 sl,.int .i64 sc] 162 (0,0)):=by rw[<-a6.out];exact QS _ _
 have cq:ab [] W W1:=by rw[<-a6.out];exact(ab.refl [] _).alloc _
 have F:Hid _:=cV.out.trans cq
 have E:Hid (∀b:World,ab [] W1 b->(b.cell? ⟨W.heap.size,0,none⟩=some (.int .i64 sr)/\b.cell? ⟨W.heap.size,1,none⟩=some (.int .i64 (sb:Int))/\W.heap.size<b.heap.size)/\(b.cell? ⟨w.heap.size,0,none⟩=some (.slice (some ⟨gP,0,none⟩) P.length cP)/\b.cell? ⟨w.heap.size,1,none⟩=some (.int .i64 y)/\b.cell? ⟨w.heap.size,2,none⟩=some (.string pf)/\b.cell? ⟨w.heap.size,3,none⟩=some (.int .i64 pl)/\b.cell? ⟨w.heap.size,4,none⟩=some (.int .i64 pc)/\w.heap.size<b.heap.size)):=fun b kx=>by
  have b1:=kx.get B1 (by simp);have b0:=(cq.trans kx).get d9.out (by simp);exact⟨⟨by rw[aa b1];rfl,by rw[aa b1];rfl,ae b1⟩,by rw[aa b0];rfl,by rw[aa b0];rfl,by rw[aa b0];rfl,by rw[aa b0];rfl,by rw[aa b0];rfl,ae b0⟩
 clear B1 cq BW;obtain⟨⟨J,s1,m⟩,p1,p2,p3,p4,p5,v⟩:=E.out W1 (ab.refl _ _)
 rcases a0 with ⟨rfl,fo⟩ | ⟨r,hr,rfl,bd,bf⟩
 ·rw[QW rfl]at a
  have be:sb<A.length:=by omega
  have fl:(sb:Int)<(A.length:Int):=by omega
  obtain⟨gA,rfl,eS,cc⟩:=cm.sl (cm.Vb HA.out F.out) sb be;have HO:Hid _:=(ct.out (fQ A sb) (jK A sb be)).Vb F.out;have ep:Hid (fQ A sb∈A):=jK A sb be;rw[c0.out sb be]at a;generalize fQ A sb=s at *;obtain⟨K,n,sL⟩:=s;simp only at cc a;go_enter func131,ntmps131
  go_upto_region 1 with fail
  rw[HW.out]
  go_upto_region 2 with fail
  rw[a6.out];go_wp2;go_ret2;rw[a.out];exact⟨⟨K,n,sL⟩,rfl,rfl,fun _=>HO.out,Q1 ep.out,F.out⟩
 ·have I:r<l.length:=by omega
  rw[QT (by omega),Sa]at a;have fu:(((r:Nat):Int) == -2)=false:=UV (by omega);have fv:((r:Nat):Int)<(l.length:Int):=by omega
  have ft:(0:Int)<=((r:Nat):Int):=by omega
  have u:bS (au l r).k=false:=by
   unfold aC aG at bd;simp only[Bool.or_eq_true]at bd
   rcases bd with (h | h) | (h | h) <;> exact fX h (by decide)
  have cx:Hid (∀b,ab [] w b->Calls prog 72 #[.pointer (some ⟨k,0,none⟩),.int .i64 ((r:Nat):Int)] b fun e w'=>∃h',e=.returned (.slice h'.ao (cI H l r).length h'.cap)/\vj b w' h' (cI H l r)):=fun b kx=>by
   have:=kD k r H M N l L S b (fz.Vb HD.out kx) I (by omega) (by rw[bM l r I];exact ai.out.e r hr u);rw[bM l r I]at this;exact this
  obtain⟨cj,-⟩:=cB.out r hr bd;have eL:(cI H l r).length<=H.length:=kg H _;obtain⟨X,HX⟩:∃X,Hid (cI H l r=X):=⟨_,rfl⟩
  rw[HX.out]at cx a cj eL
  have ev:Hid (∀b:World,ab [] w b->∃gs,L=some ⟨gs,0,none⟩/\gs<b.heap.size/\b.cell? ⟨k,1,none⟩=some (.slice L l.length S)/\k<b.heap.size/\b.cell? ⟨gs,r*4+3,none⟩=some (.string (au l r).k)):=fun b kx=>by
   have hd:=fz.Vb HD.out kx;obtain⟨-,J,D⟩:=hd.cells;obtain⟨gs,e3,ck,-,-,-,q3⟩:=hd.s.2 r l[r] (QP I);rw[bM l r I]at q3;exact⟨gs,e3,ck,J,D,q3⟩
  have cy:Hid _:=cx.out W1 F.out;go_enter func131,ntmps131
  go_upto_region 1 with fail
  rw[HW.out]
  go_upto_region 2 with fail
  rw[a6.out];clear q0 q1 q2 q3 q4 q5 p0 eT e2
  go_upto_region 5 with (go_at_call 72;refine QU cy.out ?_;rintro e w2 ⟨h2,rfl,x2⟩)
  have cR:Hid _:=F.out.trans x2.kept;have c7:Hid _:=x2.kept;have ei:Hid _:=x2.toL;clear x2 J s1 m p1 p2 p3 p4 p5 v;obtain⟨⟨J,s1,m⟩,p1,p2,p3,p4,p5,v⟩:=E.out w2 c7.out;obtain⟨gs,rfl,ck,t0,eP,t1⟩:=ev.out w2 cR.out;obtain⟨sk,df⟩:∃sk,Hid ((au l r).k=sk):=⟨_,rfl⟩
  rw[df.out]at t1 a bf;obtain⟨ba,b6⟩:∃ba,Hid (aC sk=ba):=⟨_,rfl⟩
  have cs:Hid (∀b,Calls prog 122 #[.string sk] b fun e w'=>e=.returned (.bool ba)/\w'=b):=fun b=>by rw[<-b6.out];exact fT sk b
  rw[b6.out]at a bf
  go_quiet ((go_at_call 122;exact Rd (cs.out _)))
  go_upto_region 6 with fail
  obtain⟨w3,ca⟩:∃w3,Hid (w2.drewN nq=w3):=⟨_,rfl⟩
  rw[ca.out];have k3:ab [] w2 w3:=by rw[<-ca.out];exact(ab.refl [] w2).drewN nq
  have af:Hid _:=cR.out.trans k3;have c8:Hid _:=c7.out.trans k3;have b2:Hid _:=ei.out.Vb k3;clear J s1 m p1 p2 p3 p4 p5 v ck t0 eP t1 k3 ca cs;obtain⟨⟨J,s1,m⟩,p1,p2,p3,p4,p5,v⟩:=E.out w3 c8.out
  cases ba
  ·rw[QW rfl]at a
   by_cases az:32<X.length
   ·rw[QW az]at a
    have aS:(32:Int)<(X.length:Int):=by omega
    go_wp2;go_ret2;rw[a.out];exact qy rfl rfl rfl af.out
   ·rw[QT az]at a
    have aS:¬(32:Int)<(X.length:Int):=by omega
    go_wp2;go_ret2;rw[a.out];exact⟨⟨h2.ao,h2.cap,X⟩,rfl,rfl,fun _=>b2.out.sh cj (by omega),QV (fun q o e=>Q3 F.out.size (b2.out.far q (KN e))),af.out⟩
  ·rw[QT (by simp)]at a
   have b4:Hid (Q=(bW H l r).length):=bf rfl;clear bf;have bx:Hid _:=eb.out w3 (by omega) hi (cm.Vb HP.out af.out)
   by_cases d3:dS P f<0
   ·rw[QW d3]at a
    generalize dS P f=bg at *;go_wp2_with (go_at_call 132;refine QU bx.out ?_;rintro e w4 ⟨rfl,k4⟩;have a1:Hid _:=af.out.trans k4;clear k4);go_ret2;rw[a.out];exact qy rfl rfl rfl a1.out
   ·rw[QT d3]at a
    have c1:Hid (∀b,ab [] w b->Calls prog 102 #[.agg #[.slice (some ⟨gP,0,none⟩) P.length cP,.int .i64 y,.string pf,.int .i64 pl,.int .i64 pc],.int .i64 f] b fun e w'=>∃g,e=.returned (.slice (some ⟨g,0,none⟩) Q Q)/\nG w' g (mJ P f)/\ab [] b w'):=fun b kx=>c3.out b (cm.Vb HP.out kx) (by omega)
    have a4:Hid _:=(c2.out (by omega));obtain⟨R,HR⟩:∃R,Hid (mJ P f=R):=⟨_,rfl⟩
    rw[HR.out]at c1 a4 a ar;generalize dS P f=bg at *
    go_upto_region 11 with (go_at_call 132;refine QU bx.out ?_;rintro e w4 ⟨rfl,k4⟩)
    have a1:Hid _:=af.out.trans k4;have c9:Hid _:=c8.out.trans k4;have ej:Hid _:=b2.out.Vb k4;clear J s1 m p1 p2 p3 p4 p5 v k4;obtain⟨⟨J,s1,m⟩,p1,p2,p3,p4,p5,v⟩:=E.out w4 c9.out;have bp:Hid _:=c1.out w4 a1.out
    go_upto_region 14 with (go_at_call 102;refine QU bp.out ?_;rintro e w5 ⟨g5,rfl,i5,k5⟩)
    have eh:Hid _:=a1.out.trans k5;have ez:Hid _:=c9.out.trans k5;have el:Hid _:=ej.out.Vb k5;have eg:Hid _:=i5;have eq:Hid (gw w5 w5 ⟨none,0⟩ (lA [])):=⟨QZ _ _ _ _,(by intro c hk;cases hk),ab.refl _ _⟩;clear J s1 m p1 p2 p3 p4 p5 v k5 i5 bp bx;have fx:Q<=10000:=by rw[b4.out];have:=kj H l r;omega
    go_wp2
    go_loopg [17,18] Q (fun g o kv wr=>∃(c:Nat) (h:Hd) (O:List Sl),c<=Q/\g=Q-c/\o=.slice h.ao O.length h.cap/\kv=.int .i64 c/\O.length<=c/\Hid (O=(R.take c).map (fQ A))/\Hid (gw w5 wr h (lA O)))
    case atStart=>exact⟨0,⟨none,0⟩,[],by omega,rfl,rfl,rfl,QR _,by show _=_;simp,eq⟩
    case round =>
     obtain⟨c,h,O,hk,hg,rfl,rfl,fb,HO,t⟩:=hrel;have bT:Hid _:=eh.out.trans t.out.kept;have db:Hid _:=ez.out.trans t.out.kept
     by_cases eY:c<Q
     ·have eX:(c:Int)<(Q:Int):=by omega
      have cl:c<R.length:=by rw[ar.out];exact eY
      have fs:=a4.out R[c] (Rb cl);have e0:R[c]<A.length:=by omega
      obtain⟨g6,e6,fp,c6⟩:=(nG.src (show nG wr g5 R from t.out.kept.get eg.out (by simp))) c R[c] (QP cl)
      cases e6
      obtain⟨gA,rfl,eS,cc⟩:=cm.sl (cm.Vb HA.out bT.out) R[c] e0;have et:Hid (O++[fQ A R[c]]=(R.take (c+1)).map (fQ A)):=by show _=_;rw[xK R _ c cl,HO.out]
      have e5:((R[c]:Nat):Int)<(A.length:Int):=by omega
      have fr:(0:Int)<=((R[c]:Nat):Int):=by omega
      generalize fQ A R[c]=s at *;generalize R[c]=q at *;obtain⟨K,n,sL⟩:=s;simp only at cc;have eH:=t.out.own;have eE:(lA O).n<=900000000:=by show O.length<=_;omega
      go_wp2_with (at_builtin;refine bN _ rfl (.tmp 70) (.tmp 78) 218 rfl iL (.slice none 0 0) 24 h (lA O) [.slice K sL.length n] underlying218 eV d6 d7 d8 rfl Rc rfl eH eE (by omega) rfl rfl (by simp[Value.oneCell']) ?_;intro h7 w7 cp d4;rw[show([.slice K sL.length n]:List Value)=Ff ⟨K,n,sL⟩ from rfl,qw]at cp;have eo:Hid _:=t.out.Vl d4 cp;clear cp d4)
      go_roundg (Q-(c+1))
      case measure=>omega
      case rel=>exact⟨c+1,h7,O++[⟨K,n,sL⟩],by omega,rfl,by simp[lA,kU],by go_num,by simp;omega,et,eo⟩
     ·have ek:c=Q:=by omega
      subst ek;have b5:Hid (O=R.map (fQ A)):=by show _=_;rw[HO.out,Tu (by rw[ar.out];exact QR _)]
      have an:Hid (O.length=c):=by show _=_;rw[b5.out,Ri,ar.out]
      have es:Hid (O.map (·.L)=R.map (fun q=>cb.getD q [])):=by
       show _=_
       rw[b5.out,List.map_map];refine Ux (fun q hq=>?_);have:=a4.out q hq;exact(c0.out q (by omega)).symm
      have p:Hid (∀s∈O,∀b,ab [] w b->oo b s):=fun s i b kx=>by
       rw[b5.out]at i;obtain⟨q,hq,rfl⟩:=Si.1 i;have:=a4.out q hq;exact(ct.out _ (jK A q (by omega))).Vb kx
      have eX:¬(c:Int)<(c:Int):=by omega
      rw[<-es.out]at a;have bz:Hid _:=(nP k r H M N l _ S wr (fz.Vb HD.out bT.out) (ai.out.mono (by omega)) I (ai.out.e r hr u));have ac:Hid _:=yG H l r;have a5:Hid _:=(ex.out r hr (by rw[df.out];exact b6.out));rw[HX.out]at a5;have ch:(bW H l r).length<=10000:=by have:=kj H l r;omega
      obtain⟨d,ef⟩:∃d,Hid (bW H l r=d):=⟨_,rfl⟩
      rw[ef.out]at bz ac a b4 a5 ch;obtain⟨⟨J,s1,m⟩,-⟩:=E.out wr db.out
      go_upto_region 20 with (go_at_call 62;refine QU bz.out ?_;rintro e w7 ⟨h7,rfl,x7⟩)
      have ag:Hid _:=bT.out.trans x7.kept;have eA:Hid _:=db.out.trans x7.kept;have em:Hid _:=(el.out.Vb t.out.kept).Vb x7.kept;have er:Hid _:=t.out.Vb x7.kept;have br:Hid _:=x7.own.srcN;have bs:Hid _:=er.out.own.srcG vw
      have dv:∀f,f<d.length->GI l d f=true->1<(cI H l (d.getD f 0)).length:=fun q hq co=>by
       have e:d.getD q 0=d[q]:=by rw[QQ,QP hq];rfl
       unfold GI at co;rw[e]at co ⊢;obtain⟨j1,-,j3⟩:=ac.out d[q] (Rb hq);exact(cB.out d[q] (by omega) (by rw[j3];simp)).2 co
      have cH:Hid _:=dv;have bw:d.length<=O.length:=by rw[an.out,b4.out];exact QR _
      have dz:O.length<=100000:=by have:=an.out;omega
      have ap:Hid _:=(Ju k x H M N l _ S d h7.ao h7.cap O h.ao h.cap w7 (fz.Vb HD.out ag.out) ai.out br.out (fun j hj=>by have:=(ac.out j hj).1;omega) ch bs.out (fun s i=>(p.out s i w7 ag.out).ok) bw cH.out (fun s i=>(p.out s i w7 ag.out).pos));clear dv J s1 m x7 bz;obtain⟨U,c5⟩:∃U,Hid (gK H l d d.length=U):=⟨_,rfl⟩
      rw[c5.out]at ap a a5;have ey:Hid (U.length=(xO l d d.length).length):=by show _=_;rw[<-c5.out];unfold gK;simp
      obtain⟨OM,al⟩:∃OM,Hid (O.map (·.L)=OM):=⟨_,rfl⟩
      rw[al.out]at ap a;have cF:Hid ((gi l d OM d.length).length=(xO l d d.length).length):=by show _=_;unfold gi;simp
      have cL:Hid ((xO l d d.length).length<=d.length):=by
       show _<=_
       unfold xO;have:=Sc (GI l d) (List.range d.length);rw[Tf]at this;exact this
      have bo:Hid (∀e7∈gi l d OM d.length,e7.length<=10000):=Jo (fun e7 hl=>by
       rw[<-al.out]at hl;obtain⟨s,i,rfl⟩:=Si.1 hl;exact(p.out s i w7 ag.out).le)
      obtain⟨BV,ec⟩:∃BV,Hid (gi l d OM d.length=BV):=⟨_,rfl⟩
      rw[ec.out]at ap a cF bo
      go_upto_region 21 with (go_at_call 177;refine QU ap.out ?_;rintro e w8 ⟨Z,D,B,rfl,aT,dt,nv,nb⟩)
      obtain⟨V,a7⟩:∃V,Hid (w8.alloc (.cells #[.slice Z.ao U.length Z.cap,.slice D.ao B.length D.cap] 271)=V):=⟨_,rfl⟩
      rw[a7.out];have k8:ab [] w8 V:=by rw[<-a7.out];exact(ab.refl [] _).alloc _
      have B8:V.heap[w8.heap.size]?=some (.cells #[.slice Z.ao U.length Z.cap,.slice D.ao B.length D.cap] 271 (0,0)):=by rw[<-a7.out];exact QS _ _
      have z:=nv.kept.trans k8;have G:Hid _:=ag.out.trans z;have eB:Hid _:=eA.out.trans z;have bl:Hid (B.length=(xO l d d.length).length):=by show _=_;rw[<-cF.out,<-aT,Ri]
      have d2:U.length<=B.length:=by rw[ey.out,bl.out];exact QR _
      have ds:B.length<=100000:=by have:=cL.out;rw[bl.out];omega
      have bk:Hid (∀s∈B,s.L.length<=10000):=fun s i=>bo.out s.L (by rw[<-aT];exact Si.2 ⟨s,i,rfl⟩)
      have c4:Hid _:=nv.own.srcX.Vb k8;have cE:Hid _:=(nb.own.srcG vw).Vb k8;have cu:Hid _:=dt.Vb z;have b3:Hid _:=(IQ k x r H M N l _ S d h7.ao h7.cap O h.ao h.cap U Z.ao Z.cap B D.ao D.cap V (fz.Vb HD.out G.out) ai.out hr u (qD.Vb br.out z) (fun j hj=>⟨by have:=(ac.out j hj).1;omega,(ac.out j hj).2.1⟩) ch (cm.Vb bs.out z) (fun s i=>(p.out s i V G.out).ok) (fun s i=>(p.out s i V G.out).x) bw dz cH.out (fun s i=>⟨(p.out s i V G.out).pos,(p.out s i V G.out).le⟩) c4.out cE.out cu.out d2 ds bk.out);rw[al.out,aT]at b3;obtain⟨C,dk⟩:∃C,Hid (pP H l x r d OM U BV=C):=⟨_,rfl⟩
      rw[dk.out]at b3 a;obtain⟨⟨J,s1,m⟩,-⟩:=E.out V eB.out;have v0:V.cell? ⟨w8.heap.size,0,none⟩=some (.slice Z.ao U.length Z.cap):=by rw[aa B8];rfl
      have v1:V.cell? ⟨w8.heap.size,1,none⟩=some (.slice D.ao B.length D.cap):=by rw[aa B8];rfl
      have v2:=ae B8;have ea:Hid _:=B8;have en:Hid _:=em.out.Vb z;have cz:Hid _:=aT;clear k8 z nv nb dt B8 ap a7 aT
      go_upto_region 22 with (go_at_call 178;refine QU b3.out ?_;rintro e w9 ⟨rfl,k9⟩)
      have a2:Hid _:=G.out.trans k9
      cases bj:(C==0)
      ·rw[QW bj]at a
       go_wp2;go_ret2;rw[a.out];exact qy rfl bj rfl a2.out
      ·rw[QT (by rw[bj];simp)]at a
       have e1:C=0:=by simpa using bj
       subst e1;have a3:Hid _:=(CN U Z.ao Z.cap B D.ao D.cap X h2.ao h2.cap w9 (ge.Vb c4.out k9) (cm.Vb cE.out k9) (pa.Vb cu.out k9) d2 ds (ge.Vb en.out.own.srcX k9) (by omega) bk.out);rw[cz.out]at a3;have d5:=N0 (B:=BV) cj a5.out;have B9:=k9.get ea.out (by simp);obtain⟨Y,HY⟩:∃Y,Hid (iU U BV X=Y):=⟨_,rfl⟩
       rw[HY.out]at a3 a d5;have v3:w9.cell? ⟨w8.heap.size,0,none⟩=some (.slice Z.ao U.length Z.cap):=by rw[aa B9];rfl
       have v4:w9.cell? ⟨w8.heap.size,1,none⟩=some (.slice D.ao B.length D.cap):=by rw[aa B9];rfl
       have v5:=ae B9;clear k9 v0 v1 v2 J s1 m
       by_cases az:32<Y.length
       ·rw[QW az]at a
        have aS:(32:Int)<(Y.length:Int):=by omega
        go_wp2_with (go_at_call 179;refine QU a3.out ?_;rintro e e4 ⟨cf,rfl,T⟩;have ad:Hid _:=a2.out.trans T.kept;clear T);go_ret2;rw[a.out];exact qy rfl rfl rfl ad.out
       ·rw[QT az]at a
        have aS:¬(32:Int)<(Y.length:Int):=by omega
        go_wp2_with (go_at_call 179;refine QU a3.out ?_;rintro e e4 ⟨cf,rfl,T⟩;have ad:Hid _:=a2.out.trans T.kept;have bv:Hid _:=T;clear T);go_ret2;rw[a.out];exact⟨⟨cf.ao,cf.cap,Y⟩,rfl,rfl,fun _=>bv.out.sh d5 (by omega),QV (fun q o e=>Q3 a2.out.size (bv.out.far q (KN e))),ad.out⟩
structure ik where
 label:ByteArray
 Vc:Int
 why:Int
 file:ByteArray
 line:Int
 col:Int
def jJ(r:ik):List Value:=[.string r.label,.int .i64 r.Vc,.int .i64 r.why,.string r.file,.int .i64 r.line,.int .i64 r.col]
theorem xf(r:ik):(jJ r).length=6:=rfl
def xt(T:List Tk)(S:List Sm)(a:Nat)(P:List dj)(l:ByteArray)(t:Tk)(M:List (List ByteArray)):ik :=
 if(dS P (P.length-1)==0)=false then⟨l,2,11,t.file,t.line,t.col⟩
 else if oc (cI T S a) (M.getD (P.length-1) [])=false then⟨l,2,12,t.file,t.line,t.col⟩ else⟨l,4,0,⟨#[]⟩,0,0⟩
def po(T:List Tk)(S:List Sm)(a:Nat)(P:List dj)(l:ByteArray)(t:Tk):Nat->Nat->List (List ByteArray)->ik
 | 0,_,M=>xt T S a P l t M
 | n+1,i,M=>if((ui T S a P i M).2==0)=false then⟨l,2,(ui T S a P i M).2,(bO P i).file,(bO P i).line,(bO P i).col⟩ else po T S a P l t n (i+1) (M++[(ui T S a P i M).1])
def mR(T:List Tk)(S:List Sm)(a:Nat)(p:jS)(t:Tk):ik :=
 if(p.why==0)=false then⟨bG T (au S a),2,p.why,p.file,p.line,p.col⟩
 else if 0<=ic p.st then⟨bG T (au S a),3,p.why,(bO p.st (ic p.st).toNat).file,(bO p.st (ic p.st).toNat).line,(bO p.st (ic p.st).toNat).col⟩
 else po T S a p.st (bG T (au S a)) t p.st.length 0 []
theorem ob{o p q:Value}(h:T.heap[n]?=some (.cells #[g,s,u,o,p,q] 38 (0,0)))(a b c d e f:Value) :
  (T.setCell ⟨n,0,none⟩ a).cell? ⟨n,0,none⟩=some a/\((T.setCell ⟨n,0,none⟩ a).setCell ⟨n,1,none⟩ b).cell? ⟨n,1,none⟩=some b/\(((T.setCell ⟨n,0,none⟩ a).setCell ⟨n,1,none⟩ b).setCell ⟨n,2,none⟩ c).cell? ⟨n,2,none⟩=some c/\((((T.setCell ⟨n,0,none⟩ a).setCell ⟨n,1,none⟩ b).setCell ⟨n,2,none⟩ c).setCell ⟨n,3,none⟩ d).cell? ⟨n,3,none⟩=some d /\
  (((((T.setCell ⟨n,0,none⟩ a).setCell ⟨n,1,none⟩ b).setCell ⟨n,2,none⟩ c).setCell ⟨n,3,none⟩ d).setCell ⟨n,4,none⟩ e).cell? ⟨n,4,none⟩=some e/\((((((T.setCell ⟨n,0,none⟩ a).setCell ⟨n,1,none⟩ b).setCell ⟨n,2,none⟩ c).setCell ⟨n,3,none⟩ d).setCell ⟨n,4,none⟩ e).setCell ⟨n,5,none⟩ f).cell? ⟨n,5,none⟩=some f:=by
 have i:=ah h 0 a;have j:=ah i 1 b;have k:=ah j 2 c;have l:=ah k 3 d;have m:=ah l 4 e;have r:=ah m 5 f;exact⟨by rw[aa i];rfl,by rw[aa j];rfl,by rw[aa k];rfl,by rw[aa l];rfl,by rw[aa m];rfl,by rw[aa r];rfl⟩
theorem dZ{r:ik}(h:T.heap[n]?=some (.cells (jJ r).toArray 38 (0,0))) :
  (T.cell? ⟨n,0,none⟩=some (.string r.label)/\T.cell? ⟨n,1,none⟩=some (.int .i64 r.Vc)/\T.cell? ⟨n,2,none⟩=some (.int .i64 r.why)/\T.cell? ⟨n,3,none⟩=some (.string r.file)/\T.cell? ⟨n,4,none⟩=some (.int .i64 r.line)/\T.cell? ⟨n,5,none⟩=some (.int .i64 r.col)) /\
  (T.frozen? ⟨n,0,none⟩=false/\T.frozen? ⟨n,1,none⟩=false/\T.frozen? ⟨n,2,none⟩=false/\T.frozen? ⟨n,3,none⟩=false/\T.frozen? ⟨n,4,none⟩=false/\T.frozen? ⟨n,5,none⟩=false)/\n<T.heap.size:=by
 refine⟨⟨?_,?_,?_,?_,?_,?_⟩,⟨am h 0,am h 1,am h 2,am h 3,am h 4,am h 5⟩,ae h⟩
 all_goals (rw[aa h];rfl)
def N8:ik:=⟨⟨#[]⟩,0,0,⟨#[]⟩,0,0⟩
def Ks(w:World)(r:ik)(e:Ending)(w':World):Prop:=e=.returned (.agg (jJ r).toArray)/\ab [] w w'
structure Kq(T:List Tk)(S:List Sm)(a:Nat)(p:jS):Prop where
 le:p.st.length<=100000000
 nd:M0 p.st
 st:p.why=0->0<p.st.length/\∀i,i<p.st.length->(bO p.st i).ref≠-1->Kv T S a p.st i
structure A8(w wr:World)(p:jS)(hp:Hd)(r:ik):Prop where
 e:wr.heap[w.heap.size]?=some (.cells #[.slice hp.ao p.st.length hp.cap,.int .i64 p.why,.string p.file,.int .i64 p.line,.int .i64 p.col] 122 (0,0))
 z:wr.heap[w.heap.size+1]?=some (.cells (jJ N8).toArray 38 (0,0))
 r:wr.heap[w.heap.size+2]?=some (.cells (jJ r).toArray 38 (0,0))
 kept:ab [] w wr
theorem A8.Vb{r:ik}(a:A8 T d y9 y r)(k:ab [] d yu):A8 T yu y9 y r:=⟨k.get a.e (by simp),k.get a.z (by simp),k.get a.r (by simp),a.kept.trans k⟩
theorem A8.set{r r':ik}(a:A8 T d y9 y r)(i:Nat)(v:Value)(h:(jJ r).set i v=jJ r'):A8 T (d.setCell ⟨T.heap.size+2,i,none⟩ v) y9 y r':=by
 have k:ab [T.heap.size+2] d (d.setCell ⟨T.heap.size+2,i,none⟩ v):=(ab.refl _ _).setCell (Q1 (by simp)) _;refine⟨k.get a.e (by simp),k.get a.z (by simp),?_,a.kept.setCell (QV (by simp)) _⟩;rw[ah a.r,<-h];simp
theorem A8.prf{r:ik}(a:A8 T d y9 y r):d.cell? ⟨T.heap.size,0,none⟩=some (.slice y.ao y9.st.length y.cap)/\d.cell? ⟨T.heap.size,1,none⟩=some (.int .i64 y9.why)/\d.cell? ⟨T.heap.size,2,none⟩=some (.string y9.file)/\d.cell? ⟨T.heap.size,3,none⟩=some (.int .i64 y9.line)/\d.cell? ⟨T.heap.size,4,none⟩=some (.int .i64 y9.col)/\T.heap.size<d.heap.size :=
 ⟨by rw[aa a.e];rfl,by rw[aa a.e];rfl,by rw[aa a.e];rfl,by rw[aa a.e];rfl,by rw[aa a.e];rfl,ae a.e⟩
theorem Qi(h:oo T o):∃q b,o.ao=some ⟨q,b,none⟩/\q<T.heap.size:=by
 obtain⟨g,e,a,-⟩:=h.x 0 _ (mm o.L 0 h.pos);exact⟨g,0,e,a⟩
theorem Ms(g:bt T d y D)(a:oo T o)(n:∀q f,o.ao=some ⟨q,f,none⟩->y.blk≠some q):oo d o:=by
 refine⟨⟨fun k x h=>?_,a.ok.nil,a.ok.le⟩,fun k x h=>?_,a.pos,a.le⟩
 ·obtain⟨q,f,e,b,c⟩:=a.ok.src k x h
  exact⟨q,f,e,QX b g.kept.size,by rw[Q6 (g.kept.block q b (fun i=>n q f e (aN i)))];exact c⟩
 ·obtain⟨q,e,b,c⟩:=a.x k x h
  exact⟨q,e,QX b g.kept.size,by rw[Q6 (g.kept.block q b (fun i=>n q 0 e (aN i)))];exact c⟩
theorem Ob(g:bt T d y D)(a:∀o∈yr,oo T o)(n:∀o∈yr,∀q e,o.ao=some ⟨q,e,none⟩->y.blk≠some q)(b:oo T o)(m:∀q e,o.ao=some ⟨q,e,none⟩->y.blk≠some q):∀t∈yr++[o],oo d t:=fun t c=>by
 rcases Rr.1 c with c | c
 ·exact Ms g (a t c) (n t c)
 ·rw[Q9.1 c];exact Ms g b m
theorem M8(g:bt T d y D)(a:∀o∈yr,oo T o)(n:∀o∈yr,∀q c,o.ao=some ⟨q,c,none⟩->y.blk≠some q)(b:oo T o)(m:∀q c,o.ao=some ⟨q,c,none⟩->y.blk≠some q):∀t∈yr++[o],∀q c,t.ao=some ⟨q,c,none⟩->D.blk≠some q:=fun t f q c e j=>by
 have h:oo T t/\y.blk≠some q:=by
  rcases Rr.1 f with f | f
  ·exact⟨a t f,n t f q c e⟩
  ·rw[Q9.1 f]at e ⊢;exact⟨b,m q c e⟩
 rcases g.blk with i | ⟨s,i,l⟩
 ·exact h.2 (by rw[<-i];exact j)
 ·rw[i]at j;cases j
  obtain⟨u,r,k,p⟩:=Qi h.1;rw[e]at k
  cases k
  omega
theorem AL(p:jS)(T:Hd)(w:World)(hD:fz w k H M N l L S)(ok:nK H l x)(hB:Kk H l x)(cj:OL H l x)(hn:x<l.length)(hE:cU H (au l x).h)(dz:(au l x).a<H.length)(d0:(au l x).z=f+1)(d3:f<H.length)(hP:cm w T.ao 6 kV p.st)(a6:Kq H l x p) :
  Calls prog 89 #[.pointer (some ⟨k,0,none⟩),.int .i64 x,.agg #[.slice T.ao p.st.length T.cap,.int .i64 p.why,.string p.file,.int .i64 p.line,.int .i64 p.col]] w fun e w'=>Ks w (mR H l x p (H.getD f jf)) e w':=by
 obtain⟨W,HW⟩:∃W,Hid (((w.alloc (.cells #[.slice T.ao p.st.length T.cap,.int .i64 p.why,.string p.file,.int .i64 p.line,.int .i64 p.col] 122)).alloc (.cells #[.string ⟨#[]⟩,.int .i64 0,.int .i64 0,.string ⟨#[]⟩,.int .i64 0,.int .i64 0] 38)).alloc (.cells #[.string ⟨#[]⟩,.int .i64 2,.int .i64 p.why,.string p.file,.int .i64 p.line,.int .i64 p.col] 38)=W):=⟨_,rfl⟩
 have V0:A8 w W p T ⟨⟨#[]⟩,2,p.why,p.file,p.line,p.col⟩:=by
  obtain⟨W1,a2⟩:∃W1,W1=w.alloc (.cells #[.slice T.ao p.st.length T.cap,.int .i64 p.why,.string p.file,.int .i64 p.line,.int .i64 p.col] 122):=⟨_,rfl⟩
  obtain⟨W2,a3⟩:∃W2,W2=W1.alloc (.cells #[.string ⟨#[]⟩,.int .i64 0,.int .i64 0,.string ⟨#[]⟩,.int .i64 0,.int .i64 0] 38):=⟨_,rfl⟩
  have R:W1.heap.size=w.heap.size+1:=by rw[a2];simp
  have U:W2.heap.size=w.heap.size+2:=by rw[a3];simp[R]
  have k0:ab [] w W1:=by rw[a2];exact(ab.refl [] _).alloc _
  have k1:ab [] W1 W2:=by rw[a3];exact(ab.refl [] _).alloc _
  have G:W1.heap[w.heap.size]?=some (.cells #[.slice T.ao p.st.length T.cap,.int .i64 p.why,.string p.file,.int .i64 p.line,.int .i64 p.col] 122 (0,0)):=by rw[a2];exact QS _ _
  have I:W2.heap[w.heap.size+1]?=some (.cells (jJ N8).toArray 38 (0,0)):=by rw[a3,<-R];exact QS _ _
  rw[<-HW.out,<-a2,<-a3];have k2:ab [] W2 (W2.alloc (.cells #[.string ⟨#[]⟩,.int .i64 2,.int .i64 p.why,.string p.file,.int .i64 p.line,.int .i64 p.col] 38)):=(ab.refl [] _).alloc _;exact⟨k2.get (k1.get G (by simp)) (by simp),k2.get I (by simp),by rw[<-U];exact QS _ _,(k0.trans k1).trans k2⟩
 have a0:Hid _:=V0;have HD:Hid _:=hD;have cF:Hid _:=ok;have HP:Hid _:=hP;have d7:=ok.sm;have d8:=ok.tm;have cz:Hid _:=hB;have c2:Hid _:=cj;have cL:Hid _:=hE;have a1:=a6.le;have bj:Hid _:=a6.nd;have bo:Hid _:=a6.st
 have b4:Hid (Calls prog 87 #[.pointer (some ⟨k,0,none⟩),.int .i64 x] W fun e w'=>e=.returned (.string (bG H (au l x)))/\ab [] W w'):=by
  have:=nQ k x H M N l L S W (hD.Vb V0.kept) hn (by rw[bM l x hn];exact dz);rw[bM l x hn]at this;exact this
 have ac:Hid (mR H l x p (H.getD f jf)=if(p.why==0)=false then⟨bG H (au l x),2,p.why,p.file,p.line,p.col⟩
  else if 0<=ic p.st then⟨bG H (au l x),3,p.why,(bO p.st (ic p.st).toNat).file,(bO p.st (ic p.st).toNat).line,(bO p.st (ic p.st).toNat).col⟩
  else po H l x p.st (bG H (au l x)) (H.getD f jf) p.st.length 0 []):=rfl
 have cb:Hid (∀F:World,ab [] w F->∃gT gs,M=some ⟨gT,0,none⟩/\L=some ⟨gs,0,none⟩/\gT<F.heap.size/\gs<F.heap.size/\k<F.heap.size/\F.cell? ⟨k,0,none⟩=some (.slice M H.length N)/\F.cell? ⟨k,1,none⟩=some (.slice L l.length S)/\F.cell? ⟨gs,x*4+1,none⟩=some (.int .i64 ((f:Int)+1))/\F.cell? ⟨gT,f*5+2,none⟩=some (.string (H.getD f jf).file)/\F.cell? ⟨gT,f*5+3,none⟩=some (.int .i64 (H.getD f jf).line)/\F.cell? ⟨gT,f*5+4,none⟩=some (.int .i64 (H.getD f jf).col)):=fun F kx=>by
  have hd:=fz.Vb HD.out kx;obtain⟨c0,c1,hb⟩:=hd.cells;obtain⟨gs,J,bw,-,q1,-,-⟩:=hd.s.2 x l[x] (QP hn);rw[bM l x hn,d0,show((f+1:Nat):Int)=(f:Int)+1 by omega]at q1;obtain⟨gT,K,bv,-,-,t2,t3,t4⟩:=hd.t.2 f _ (iw H f d3);exact⟨gT,gs,K,J,bv,bw,hb,c0,c1,q1,t2,t3,t4⟩
 have bf:Hid (∀F,ab [] w F->Calls prog 130 #[.agg #[.slice T.ao p.st.length T.cap,.int .i64 p.why,.string p.file,.int .i64 p.line,.int .i64 p.col]] F fun e w'=>e=.returned (.int .i64 (ic p.st))/\ab [] F w'):=fun F kx=>Is p.st T.ao T.cap p.why p.file p.line p.col F (hP.Vb kx) a1
 have cl:=Ei p.st;obtain⟨iL,dv,cu,cx,cy⟩:=Re Ej;clear hD ok hB cj hE hP a6 V0;obtain⟨j,Hl⟩:∃j,Hid (bG H (au l x)=j):=⟨_,rfl⟩
 rw[Hl.out]at b4 ac;obtain⟨V,c6⟩:∃V,Hid (mR H l x p (H.getD f jf)=V):=⟨_,rfl⟩
 rw[c6.out]at ac ⊢;obtain⟨P,y,pf,pl,pc⟩:=p;simp only at ac bf cl a1 bj bo HP;obtain⟨G,I,m,J,K,e5⟩:=a0.out.prf;obtain⟨⟨n,u,B,C,D,E⟩,⟨f0,f1,f2,f3,f4,f5⟩,c⟩:=dZ a0.out.r;obtain⟨⟨z0,R,U,z3,z4,z5⟩,⟨y0,y1,y2,y3,y4,y5⟩,b⟩:=dZ a0.out.z;simp only at n u B C D E;go_enter func89,ntmps89
 go_upto_region 2 with fail
 rw[HW.out]
 go_upto_region 3 with (go_at_call 87;refine QU b4.out ?_;rintro e w1 ⟨rfl,k1⟩;have V1:=a0.out.Vb k1;obtain⟨⟨u0,-⟩,⟨u1,-⟩,u2⟩:=dZ V1.r)
 have ag:Hid (A8 w (w1.setCell ⟨w.heap.size+2,0,none⟩ (.string j)) ⟨P,y,pf,pl,pc⟩ T ⟨j,2,y,pf,pl,pc⟩):=V1.set 0 (.string j) rfl;obtain⟨X2,cf⟩:∃X2,Hid (w1.setCell ⟨w.heap.size+2,0,none⟩ (.string j)=X2):=⟨_,rfl⟩
 rw[cf.out]at ag ⊢;clear V1 u0 u1 u2 k1 cf;clear G I m J K e5 n u B C D E f0 f1 f2 f3 f4 f5 c z0 R U z3 z4 z5 y0 y1 y2 y3 y4 y5 b;obtain⟨G,I,m,J,K,e5⟩:=ag.out.prf;obtain⟨⟨n,u,B,C,D,E⟩,⟨f0,f1,f2,f3,f4,f5⟩,c⟩:=dZ ag.out.r;obtain⟨⟨z0,R,U,z3,z4,z5⟩,⟨y0,y1,y2,y3,y4,y5⟩,b⟩:=dZ ag.out.z;simp only at n u B C D E;simp only at G I m J K
 cases hy:(y==0)
 ·rw[hy,QW rfl]at ac
  have HX:Hid (V=⟨j,2,y,pf,pl,pc⟩):=ac.out;go_wp2;obtain⟨x0,x1,x2,x3,x4,x5⟩:=ob ag.out.z (.string j) (.int .i64 2) (.int .i64 y) (.string pf) (.int .i64 pl) (.int .i64 pc);exact QY (v:=.agg #[.string j,.int .i64 2,.int .i64 y,.string pf,.int .i64 pl,.int .i64 pc]) (by simp[results,results89,go_sem,x0,x1,x2,x3,x4,x5]) rfl ⟨by rw[HX.out];rfl,(((((ag.out.kept.setCell (QV (by simp)) _).setCell (QV (by simp)) _).setCell (QV (by simp)) _).setCell (QV (by simp)) _).setCell (QV (by simp)) _).setCell (QV (by simp)) _⟩
 ·rw[hy,QT (by simp)]at ac
  have d2:y=0:=by simpa using hy
  subst d2;have b3:Hid _:=bf.out X2 ag.out.kept
  go_upto_region 6 with (go_at_call 130;refine QU b3.out ?_;rintro e w3 ⟨rfl,k3⟩)
  have an:Hid _:=ag.out.Vb k3;clear k3;clear G I m J K e5 n u B C D E f0 f1 f2 f3 f4 f5 c z0 R U z3 z4 z5 y0 y1 y2 y3 y4 y5 b;obtain⟨G,I,m,J,K,e5⟩:=an.out.prf;obtain⟨⟨n,u,B,C,D,E⟩,⟨f0,f1,f2,f3,f4,f5⟩,c⟩:=dZ an.out.r;obtain⟨⟨z0,R,U,z3,z4,z5⟩,⟨y0,y1,y2,y3,y4,y5⟩,b⟩:=dZ an.out.z;simp only at n u B C D E;simp only at G I m J K
  rcases cl with ⟨hh,co⟩ | ⟨al,hk,hh⟩
  ·rw[hh,QT (by omega)]at ac
   rw[hh];obtain⟨d6,ct⟩:=bo.out (by trivial);have cX:Hid (∀i,i<P.length->Kv H l x P i):=fun i hi=>ct i hi (co i hi)
   have cB:Hid (gw w3 w3 ⟨none,0⟩ (lA [])):=⟨QZ _ _ _ _,(by intro al hk;cases hk),ab.refl _ _⟩;have ba:Hid (po H l x P j (H.getD f jf) (P.length-0) 0 (([]:List Sl).map (·.L))=V):=ac.out.symm;obtain⟨tz,db⟩:∃tz,Hid (H.getD f jf=tz):=⟨_,rfl⟩
   rw[db.out]at cb ba;clear ct co hh ac bo bf b3;go_wp2;clear G I m J K e5 n u B C D E f0 f1 f2 f3 f4 f5 c z0 R U z3 z4 z5 y0 y1 y2 y3 y4 y5 b
   go_loopg [9,10] P.length (fun g o iv wr=>∃(i:Nat) (h:Hd) (A:List Sl),i<=P.length/\g=P.length-i/\o=.slice h.ao A.length h.cap/\iv=.int .i64 i/\Hid (A.length=i)/\Hid (∀s∈A,oo wr s)/\Hid (∀s∈A,∀q o,s.ao=some ⟨q,o,none⟩->h.blk≠some q)/\Hid (po H l x P j tz (P.length-i) i (A.map (·.L))=V)/\Hid (gw w3 wr h (lA A)))
   case atStart=>exact⟨0,⟨none,0⟩,[],by omega,rfl,rfl,rfl,rfl,(fun s hs=>by cases hs),(fun s hs=>by cases hs),ba,cB⟩
   case round =>
    obtain⟨i,h,A,hi,hg,rfl,rfl,ar,bd,be,HG,ax⟩:=hrel;have ap:Hid _:=an.out.Vb ax.out.kept;have aT:Hid _:=ap.out.kept;obtain⟨G,I,m,J,K,e5⟩:=ap.out.prf;obtain⟨⟨n,u,B,C,D,E⟩,⟨f0,f1,f2,f3,f4,f5⟩,c⟩:=dZ ap.out.r;obtain⟨⟨z0,R,U,z3,z4,z5⟩,⟨y0,y1,y2,y3,y4,y5⟩,b⟩:=dZ ap.out.z;simp only at n u B C D E;simp only at G I m J K
    by_cases a5:i<P.length
    ·have d9:(i:Int)<(P.length:Int):=by omega
     have bl:Hid _:=JL k x i H M N l L S P T.ao T.cap 0 pf pl pc A h.ao h.cap wr (fz.Vb HD.out aT.out) cF.out cz.out c2.out hn (cm.Vb HP.out aT.out) a1 bj.out a5 (cX.out i a5) (ax.out.own.srcG vw) bd.out ar.out;obtain⟨d,hd⟩:∃d,P.length-i=d+1:=⟨P.length-i-1,by omega⟩
     have af:Hid (po H l x P j tz (d+1) i (A.map (·.L))=V):=by rw[<-hd];exact HG
     rw[po]at af;have c8:Hid (P.length-(i+1)=d):=by show _=_;omega
     clear hd HG;obtain⟨SR,cV⟩:∃SR,Hid (ui H l x P i (A.map (·.L))=SR):=⟨_,rfl⟩
     rw[cV.out]at bl af;obtain⟨sE,sW⟩:=SR;simp only at af
     go_upto_region 15 with (go_at_call 131;refine QU bl.out ?_;rintro e w4 ⟨s,rfl,cq,bc,cs,k4⟩)
     have Y:Hid _:=ap.out.Vb k4;have cc:Hid _:=ax.out.Vb k4;have a7:Hid (∀s∈A,oo w4 s):=fun s hs=>(bd.out s hs).Vb k4
     have ca:Hid (s.L=sE):=cq;have cP:Hid ((sW==0)=true->oo w4 s):=bc
     have b6:Hid (∀q o,s.ao=some ⟨q,o,none⟩->h.blk≠some q):=fun q o e hb=>by
      rcases cs with hm | hf
      ·exact be.out s hm q o e hb
      ·have:=hf q o e
       have:=ax.out.own.lt hb;omega
     clear cq bc cs k4 bl;clear G I m J K e5 n u B C D E f0 f1 f2 f3 f4 f5 c z0 R U z3 z4 z5 y0 y1 y2 y3 y4 y5 b;obtain⟨G,I,m,J,K,e5⟩:=Y.out.prf;obtain⟨⟨n,u,B,C,D,E⟩,⟨f0,f1,f2,f3,f4,f5⟩,c⟩:=dZ Y.out.r;obtain⟨⟨z0,R,U,z3,z4,z5⟩,⟨y0,y1,y2,y3,y4,y5⟩,b⟩:=dZ Y.out.z;simp only at n u B C D E;simp only at G I m J K
     cases hw:(sW==0)
     ·rw[hw,QW rfl]at af
      have HX:Hid (V=⟨j,2,sW,(bO P i).file,(bO P i).line,(bO P i).col⟩):=af.out.symm;obtain⟨gP,az,aS,-,-,-,q3,q4,q5⟩:=cm.step (cm.Vb HP.out Y.out.kept) i a5
      have HQ:Hid (∀F:World,ab [] w F->gP<F.heap.size/\F.cell? ⟨gP,i*6+3,none⟩=some (.string (bO P i).file)/\F.cell? ⟨gP,i*6+4,none⟩=some (.int .i64 (bO P i).line)/\F.cell? ⟨gP,i*6+5,none⟩=some (.int .i64 (bO P i).col)):=fun F kx=>by
       obtain⟨g2,m,h2,-,-,-,c3,c4,c5⟩:=cm.step (cm.Vb HP.out kx) i a5;rw[az]at m
       cases m
       exact⟨h2,c3,c4,c5⟩
      generalize (bO P i).file=sf at *;generalize (bO P i).line=sl at *;generalize (bO P i).col=sc at *;clear aS q3 q4 q5
      go_upto_region 17 with fail
      have O:Hid (A8 w (w4.setCell ⟨w.heap.size+2,2,none⟩ (.int .i64 sW)) ⟨P,0,pf,pl,pc⟩ T ⟨j,2,sW,pf,pl,pc⟩):=Y.out.set 2 (.int .i64 sW) rfl;obtain⟨X4,bp⟩:∃X4,Hid (w4.setCell ⟨w.heap.size+2,2,none⟩ (.int .i64 sW)=X4):=⟨_,rfl⟩
      rw[bp.out]at O ⊢;clear G I m J K e5 n u B C D E f0 f1 f2 f3 f4 f5 c z0 R U z3 z4 z5 y0 y1 y2 y3 y4 y5 b;obtain⟨G,I,m,J,K,e5⟩:=O.out.prf;obtain⟨⟨n,u,B,C,D,E⟩,⟨f0,f1,f2,f3,f4,f5⟩,c⟩:=dZ O.out.r;obtain⟨⟨z0,R,U,z3,z4,z5⟩,⟨y0,y1,y2,y3,y4,y5⟩,b⟩:=dZ O.out.z;simp only at n u B C D E;simp only at G I m J K;obtain⟨aS,q3,q4,q5⟩:=HQ.out X4 O.out.kept;rw[az]at G
      go_upto_region 18 with fail
      have Z:Hid (A8 w (((X4.setCell ⟨w.heap.size+2,3,none⟩ (.string sf)).setCell ⟨w.heap.size+2,4,none⟩ (.int .i64 sl)).setCell ⟨w.heap.size+2,5,none⟩ (.int .i64 sc)) ⟨P,0,pf,pl,pc⟩ T ⟨j,2,sW,sf,sl,sc⟩):=((O.out.set (r':=⟨j,2,sW,sf,pl,pc⟩) 3 (.string sf) rfl).set (r':=⟨j,2,sW,sf,sl,pc⟩) 4 (.int .i64 sl) rfl).set 5 (.int .i64 sc) rfl;obtain⟨X5,br⟩:∃X5,Hid (((X4.setCell ⟨w.heap.size+2,3,none⟩ (.string sf)).setCell ⟨w.heap.size+2,4,none⟩ (.int .i64 sl)).setCell ⟨w.heap.size+2,5,none⟩ (.int .i64 sc)=X5):=⟨_,rfl⟩
      rw[br.out]at Z ⊢;clear G I m J K e5 n u B C D E f0 f1 f2 f3 f4 f5 c z0 R U z3 z4 z5 y0 y1 y2 y3 y4 y5 b;obtain⟨G,I,m,J,K,e5⟩:=Z.out.prf;obtain⟨⟨n,u,B,C,D,E⟩,⟨f0,f1,f2,f3,f4,f5⟩,c⟩:=dZ Z.out.r;obtain⟨⟨z0,R,U,z3,z4,z5⟩,⟨y0,y1,y2,y3,y4,y5⟩,b⟩:=dZ Z.out.z;simp only at n u B C D E;go_wp2;obtain⟨x0,x1,x2,x3,x4,x5⟩:=ob Z.out.z (.string j) (.int .i64 2) (.int .i64 sW) (.string sf) (.int .i64 sl) (.int .i64 sc);exact QY (v:=.agg #[.string j,.int .i64 2,.int .i64 sW,.string sf,.int .i64 sl,.int .i64 sc]) (by simp[results,results89,go_sem,x0,x1,x2,x3,x4,x5]) rfl ⟨by rw[HX.out];rfl,(((((Z.out.kept.setCell (QV (by simp)) _).setCell (QV (by simp)) _).setCell (QV (by simp)) _).setCell (QV (by simp)) _).setCell (QV (by simp)) _).setCell (QV (by simp)) _⟩
     ·rw[hw,QT (by simp)]at af
      have d1:sW=0:=by simpa using hw
      subst d1;have b5:Hid _:=cP.out rfl;rw[<-ca.out]at af;have cE:Hid (([.slice s.ao sE.length s.cap]:List Value)=Ff s):=by show _=_;unfold Ff;rw[ca.out]
      have dl:=cc.out.own;have cH:Hid ((lA A).n<=900000000):=by show A.length<=_;rw[ar.out];omega
      go_wp2_with (at_builtin;refine bN _ rfl (.tmp 71) (.tmp 73) 218 rfl iL (.slice none 0 0) 24 h (lA A) [.slice s.ao sE.length s.cap] underlying218 dv cu cx cy rfl Rc rfl dl cH.out (by omega) rfl rfl (by simp[Value.oneCell']) ?_;intro h7 w7 bx a4;rw[cE.out,qw]at bx;have cA:Hid _:=cc.out.Vl a4 bx;have bz:Hid _:=Ob a4 a7.out be.out b5.out b6.out;have bT:Hid _:=M8 a4 a7.out be.out b5.out b6.out;clear bx a4)
      go_roundg (P.length-(i+1))
      case measure=>omega
      case rel=>exact⟨i+1,h7,A++[s],by omega,rfl,by simp[lA,kU],by go_num,by show _=_;rw[Q0,ar.out];rfl,bz,bT,by rw[c8.out,Ry];exact af,cA⟩
    ·obtain⟨q,hq⟩:∃q,P.length=q+1:=⟨P.length-1,by omega⟩
     have d4:¬(i:Int)<(P.length:Int):=by omega
     have eg:IntKind.i64.wrap ((P.length:Int)-1)=(q:Int):=by rw[R9];omega
     have af:Hid (xt H l x P j tz (A.map (·.L))=V):=by have:=HG.out;rw[show P.length-i=0 by omega,po]at this;exact this
     have ad:Hid (xt H l x P j tz (A.map (·.L))=if(dS P q==0)=false then⟨j,2,11,tz.file,tz.line,tz.col⟩ else if oc (cI H l x) (fQ A q).L=false then⟨j,2,12,tz.file,tz.line,tz.col⟩ else⟨j,4,0,⟨#[]⟩,0,0⟩):=by show _=_;unfold xt;rw[show P.length-1=q by omega,wF A q (by rw[ar.out];omega)]
     have cp:q<A.length:=by rw[ar.out];omega
     have d5:(q:Int)<(A.length:Int):=by omega
     have dT:q<P.length:=by omega
     have ef:(0:Int)<=(q:Int):=by omega
     clear hq HG;rw[af.out]at ad;have b2:Hid _:=(tJ P T.ao T.cap 0 pf pl pc a1 bj.out (q+1) q wr (by omega) dT (cm.Vb HP.out aT.out));generalize dS P q=bg at *
     have b1:Hid (∀F,ab [] w F->Calls prog 72 #[.pointer (some ⟨k,0,none⟩),.int .i64 (x:Int)] F fun e w'=>∃h',e=.returned (.slice h'.ao (cI H l x).length h'.cap)/\vj F w' h' (cI H l x)):=fun F kx=>by
      have:=kD k x H M N l L S F (fz.Vb HD.out kx) hn (by omega) (by rw[bM l x hn];exact cL.out);rw[bM l x hn]at this;exact this
     have dp:(cI H l x).length<=H.length:=kg H _;obtain⟨X,c7⟩:∃X,Hid (cI H l x=X):=⟨_,rfl⟩
     rw[c7.out]at b1 dp ad
     go_upto_region 22 with (go_at_call 132;refine QU b2.out ?_;rintro e w4 ⟨rfl,k4⟩)
     have b0:Hid _:=b1.out w4 (aT.out.trans k4)
     go_upto_region 23 with (go_at_call 72;refine QU b0.out ?_;rintro e w5 ⟨h5,rfl,x5⟩)
     have k5:=k4.trans x5.kept;have O:Hid _:=ap.out.Vb k5;obtain⟨gA,dk,dt,df⟩:=cm.sl ((ax.out.Vb k5).own.srcG vw) q cp;have cR:Hid _:=(bd.out (fQ A q) (jK A q cp)).Vb k5;have bk:Hid _:=(C0 X (fQ A q).L h5.ao (fQ A q).ao h5.cap (fQ A q).cap w5 x5.own.srcX cR.out.x (by omega));generalize fQ A q=s at *;obtain⟨sm,c9⟩:∃sm,Hid (oc X s.L=sm):=⟨_,rfl⟩
     rw[c9.out]at bk ad;rw[dk];clear k4 k5 x5 b0 b2;clear G I m J K e5 n u B C D E f0 f1 f2 f3 f4 f5 c z0 R U z3 z4 z5 y0 y1 y2 y3 y4 y5 b
     go_upto_region 24 with (go_at_call 133;refine QU bk.out ?_;rintro e w6 ⟨rfl,k6⟩)
     have Z:Hid _:=O.out.Vb k6;clear k6 df dt bk;obtain⟨G,I,m,J,K,e5⟩:=Z.out.prf;obtain⟨⟨n,u,B,C,D,E⟩,⟨f0,f1,f2,f3,f4,f5⟩,c⟩:=dZ Z.out.r;obtain⟨⟨z0,R,U,z3,z4,z5⟩,⟨y0,y1,y2,y3,y4,y5⟩,b⟩:=dZ Z.out.z;simp only at n u B C D E;simp only at G I m J K;obtain⟨gT,gs,rfl,rfl,bv,bw,ds,c0,c1,q1,t2,t3,t4⟩:=cb.out w6 Z.out.kept;have ec:(x:Int)<(l.length:Int):=by omega
     have eh:(f:Int)<(H.length:Int):=by omega
     obtain⟨ts,tr,tf,tl,tc⟩:=tz;simp only at t2 t3 t4 ad;have ai:Hid (A8 w (((w6.setCell ⟨w.heap.size+2,3,none⟩ (.string tf)).setCell ⟨w.heap.size+2,4,none⟩ (.int .i64 tl)).setCell ⟨w.heap.size+2,5,none⟩ (.int .i64 tc)).drew ⟨P,0,pf,pl,pc⟩ T ⟨j,2,0,tf,tl,tc⟩):=(((Z.out.set (r':=⟨j,2,0,tf,pl,pc⟩) 3 (.string tf) rfl).set (r':=⟨j,2,0,tf,tl,pc⟩) 4 (.int .i64 tl) rfl).set (r':=⟨j,2,0,tf,tl,tc⟩) 5 (.int .i64 tc) rfl).Vb (ab.refl [] _).drew
     go_region
     obtain⟨X7,ch⟩:∃X7,Hid ((((w6.setCell ⟨w.heap.size+2,3,none⟩ (.string tf)).setCell ⟨w.heap.size+2,4,none⟩ (.int .i64 tl)).setCell ⟨w.heap.size+2,5,none⟩ (.int .i64 tc)).drew=X7):=⟨_,rfl⟩
     rw[ch.out]at ai ⊢;clear G I m J K e5 n u B C D E f0 f1 f2 f3 f4 f5 c z0 R U z3 z4 z5 y0 y1 y2 y3 y4 y5 b;clear bv bw ds c0 c1 q1 t2 t3 t4 ch;obtain⟨G,I,m,J,K,e5⟩:=ai.out.prf;obtain⟨⟨n,u,B,C,D,E⟩,⟨f0,f1,f2,f3,f4,f5⟩,c⟩:=dZ ai.out.r;obtain⟨⟨z0,R,U,z3,z4,z5⟩,⟨y0,y1,y2,y3,y4,y5⟩,b⟩:=dZ ai.out.z;simp only at n u B C D E;simp only at G I m J K
     cases ck:(bg==0)
     ·rw[ck,QW rfl]at ad
      have HX:Hid (V=⟨j,2,11,tf,tl,tc⟩):=ad.out
      go_upto_region 27 with fail
      have Q:Hid (A8 w (X7.setCell ⟨w.heap.size+2,2,none⟩ (.int .i64 11)) ⟨P,0,pf,pl,pc⟩ T ⟨j,2,11,tf,tl,tc⟩):=ai.out.set 2 (.int .i64 11) rfl;obtain⟨X8,bs⟩:∃X8,Hid (X7.setCell ⟨w.heap.size+2,2,none⟩ (.int .i64 11)=X8):=⟨_,rfl⟩
      rw[bs.out]at Q ⊢;clear G I m J K e5 n u B C D E f0 f1 f2 f3 f4 f5 c z0 R U z3 z4 z5 y0 y1 y2 y3 y4 y5 b;obtain⟨G,I,m,J,K,e5⟩:=Q.out.prf;obtain⟨⟨n,u,B,C,D,E⟩,⟨f0,f1,f2,f3,f4,f5⟩,c⟩:=dZ Q.out.r;obtain⟨⟨z0,R,U,z3,z4,z5⟩,⟨y0,y1,y2,y3,y4,y5⟩,b⟩:=dZ Q.out.z;simp only at n u B C D E;go_wp2;obtain⟨x0,x1,x2,x3,x4,x5⟩:=ob Q.out.z (.string j) (.int .i64 2) (.int .i64 11) (.string tf) (.int .i64 tl) (.int .i64 tc);exact QY (v:=.agg #[.string j,.int .i64 2,.int .i64 11,.string tf,.int .i64 tl,.int .i64 tc]) (by simp[results,results89,go_sem,x0,x1,x2,x3,x4,x5]) rfl ⟨by rw[HX.out];rfl,(((((Q.out.kept.setCell (QV (by simp)) _).setCell (QV (by simp)) _).setCell (QV (by simp)) _).setCell (QV (by simp)) _).setCell (QV (by simp)) _).setCell (QV (by simp)) _⟩
     ·rw[ck,QT (by simp)]at ad
      cases sm
      ·rw[QW rfl]at ad
       have HX:Hid (V=⟨j,2,12,tf,tl,tc⟩):=ad.out
       go_upto_region 30 with fail
       have Q:Hid (A8 w (X7.setCell ⟨w.heap.size+2,2,none⟩ (.int .i64 12)) ⟨P,0,pf,pl,pc⟩ T ⟨j,2,12,tf,tl,tc⟩):=ai.out.set 2 (.int .i64 12) rfl;obtain⟨X8,bs⟩:∃X8,Hid (X7.setCell ⟨w.heap.size+2,2,none⟩ (.int .i64 12)=X8):=⟨_,rfl⟩
       rw[bs.out]at Q ⊢;clear G I m J K e5 n u B C D E f0 f1 f2 f3 f4 f5 c z0 R U z3 z4 z5 y0 y1 y2 y3 y4 y5 b;obtain⟨G,I,m,J,K,e5⟩:=Q.out.prf;obtain⟨⟨n,u,B,C,D,E⟩,⟨f0,f1,f2,f3,f4,f5⟩,c⟩:=dZ Q.out.r;obtain⟨⟨z0,R,U,z3,z4,z5⟩,⟨y0,y1,y2,y3,y4,y5⟩,b⟩:=dZ Q.out.z;simp only at n u B C D E;go_wp2;obtain⟨x0,x1,x2,x3,x4,x5⟩:=ob Q.out.z (.string j) (.int .i64 2) (.int .i64 12) (.string tf) (.int .i64 tl) (.int .i64 tc);exact QY (v:=.agg #[.string j,.int .i64 2,.int .i64 12,.string tf,.int .i64 tl,.int .i64 tc]) (by simp[results,results89,go_sem,x0,x1,x2,x3,x4,x5]) rfl ⟨by rw[HX.out];rfl,(((((Q.out.kept.setCell (QV (by simp)) _).setCell (QV (by simp)) _).setCell (QV (by simp)) _).setCell (QV (by simp)) _).setCell (QV (by simp)) _).setCell (QV (by simp)) _⟩
      ·rw[QT (by simp)]at ad
       have HX:Hid (V=⟨j,4,0,⟨#[]⟩,0,0⟩):=ad.out;go_wp2;obtain⟨x0,x1,x2,x3,x4,x5⟩:=ob ai.out.z (.string j) (.int .i64 4) (.int .i64 0) (.string ⟨#[]⟩) (.int .i64 0) (.int .i64 0);exact QY (v:=.agg #[.string j,.int .i64 4,.int .i64 0,.string ⟨#[]⟩,.int .i64 0,.int .i64 0]) (by simp[results,results89,go_sem,x0,x1,x2,x3,x4,x5]) rfl ⟨by rw[HX.out];rfl,(((((ai.out.kept.setCell (QV (by simp)) _).setCell (QV (by simp)) _).setCell (QV (by simp)) _).setCell (QV (by simp)) _).setCell (QV (by simp)) _).setCell (QV (by simp)) _⟩
  ·rw[hh,QW (by omega),Sa]at ac
   rw[hh];have ea:(0:Int)<=(al:Int):=by omega
   have eb:(al:Int)<(P.length:Int):=by omega
   have HX:Hid (V=⟨j,3,0,(bO P al).file,(bO P al).line,(bO P al).col⟩):=ac.out;obtain⟨gP,az,aS,-,-,-,q3,q4,q5⟩:=cm.step (cm.Vb HP.out an.out.kept) al hk
   have HQ:Hid (∀F:World,ab [] w F->gP<F.heap.size/\F.cell? ⟨gP,al*6+3,none⟩=some (.string (bO P al).file)/\F.cell? ⟨gP,al*6+4,none⟩=some (.int .i64 (bO P al).line)/\F.cell? ⟨gP,al*6+5,none⟩=some (.int .i64 (bO P al).col)):=fun F kx=>by
    obtain⟨g2,m,h2,-,-,-,c3,c4,c5⟩:=cm.step (cm.Vb HP.out kx) al hk;rw[az]at m
    cases m
    exact⟨h2,c3,c4,c5⟩
   generalize (bO P al).file=sf at *;generalize (bO P al).line=sl at *;generalize (bO P al).col=sc at *;clear aS q3 q4 q5
   go_upto_region 8 with fail
   have Y:Hid (A8 w (w3.setCell ⟨w.heap.size+2,1,none⟩ (.int .i64 3)) ⟨P,0,pf,pl,pc⟩ T ⟨j,3,0,pf,pl,pc⟩):=an.out.set 1 (.int .i64 3) rfl;obtain⟨X4,bp⟩:∃X4,Hid (w3.setCell ⟨w.heap.size+2,1,none⟩ (.int .i64 3)=X4):=⟨_,rfl⟩
   rw[bp.out]at Y ⊢;clear G I m J K e5 n u B C D E f0 f1 f2 f3 f4 f5 c z0 R U z3 z4 z5 y0 y1 y2 y3 y4 y5 b;obtain⟨G,I,m,J,K,e5⟩:=Y.out.prf;obtain⟨⟨n,u,B,C,D,E⟩,⟨f0,f1,f2,f3,f4,f5⟩,c⟩:=dZ Y.out.r;obtain⟨⟨z0,R,U,z3,z4,z5⟩,⟨y0,y1,y2,y3,y4,y5⟩,b⟩:=dZ Y.out.z;simp only at n u B C D E;simp only at G I m J K;obtain⟨aS,q3,q4,q5⟩:=HQ.out X4 Y.out.kept;rw[az]at G
   go_upto_region 9 with fail
   have O:Hid (A8 w (((X4.setCell ⟨w.heap.size+2,3,none⟩ (.string sf)).setCell ⟨w.heap.size+2,4,none⟩ (.int .i64 sl)).setCell ⟨w.heap.size+2,5,none⟩ (.int .i64 sc)) ⟨P,0,pf,pl,pc⟩ T ⟨j,3,0,sf,sl,sc⟩):=((Y.out.set (r':=⟨j,3,0,sf,pl,pc⟩) 3 (.string sf) rfl).set (r':=⟨j,3,0,sf,sl,pc⟩) 4 (.int .i64 sl) rfl).set 5 (.int .i64 sc) rfl;obtain⟨X5,br⟩:∃X5,Hid (((X4.setCell ⟨w.heap.size+2,3,none⟩ (.string sf)).setCell ⟨w.heap.size+2,4,none⟩ (.int .i64 sl)).setCell ⟨w.heap.size+2,5,none⟩ (.int .i64 sc)=X5):=⟨_,rfl⟩
   rw[br.out]at O ⊢;clear G I m J K e5 n u B C D E f0 f1 f2 f3 f4 f5 c z0 R U z3 z4 z5 y0 y1 y2 y3 y4 y5 b;obtain⟨G,I,m,J,K,e5⟩:=O.out.prf;obtain⟨⟨n,u,B,C,D,E⟩,⟨f0,f1,f2,f3,f4,f5⟩,c⟩:=dZ O.out.r;obtain⟨⟨z0,R,U,z3,z4,z5⟩,⟨y0,y1,y2,y3,y4,y5⟩,b⟩:=dZ O.out.z;simp only at n u B C D E;go_wp2;obtain⟨x0,x1,x2,x3,x4,x5⟩:=ob O.out.z (.string j) (.int .i64 3) (.int .i64 0) (.string sf) (.int .i64 sl) (.int .i64 sc);exact QY (v:=.agg #[.string j,.int .i64 3,.int .i64 0,.string sf,.int .i64 sl,.int .i64 sc]) (by simp[results,results89,go_sem,x0,x1,x2,x3,x4,x5]) rfl ⟨by rw[HX.out];rfl,(((((O.out.kept.setCell (QV (by simp)) _).setCell (QV (by simp)) _).setCell (QV (by simp)) _).setCell (QV (by simp)) _).setCell (QV (by simp)) _).setCell (QV (by simp)) _⟩
structure fB(w:World)(v:Nat)(fs:Fs)(h:Hd)(on:Bool)(p2 p3 p4:Value):Prop where
 d:w.heap[v]?=some (.cells #[.slice h.ao fs.length h.cap,.bool on,p2,p3,p4] 85 (0,0))
 own:aw w h (cr fs)
 far:h.blk≠some v
 le:fs.length<=4
theorem fB.Vb(a:fB T n i y y7 g s u)(k:ab [] T d):fB d n i y y7 g s u :=
 ⟨k.get a.d (by simp),a.own.Vb k,a.far,a.le⟩
def DC(w:World)(v:Nat)(h:Hd)(fs:Fs):Prop:=∃on p2 p3 p4,fB w v fs h on p2 p3 p4
theorem fB.keptS(a:fB T n i y y7 g s u)(k:ab yt T d)(e:n∉yt)(c:∀q,y.blk=some q->q∉yt):fB d n i y y7 g s u :=
 ⟨k.get a.d e,a.own.Vg (fun q b=>k.block q (a.own.lt b) (c q b)),a.far,a.le⟩
theorem aw.putAt(o:aw T y yf)(c:y.ao=some ⟨n,0,none⟩)(j:Nat)(v:Value):aw (T.setCell ⟨n,j,none⟩ v) y ⟨yf.e,yf.size,yf.n,yf.xs.set j v⟩:=by
 refine⟨by rw[Rv];exact o.1,?_⟩
 rcases o.2 with ⟨f,s⟩ | ⟨r,d,a,f,m,p,h,i,k,l⟩
 ·injection f with b
  rw[b]at c;cases c
 ·injection f with b q g
  rw[b]at c
  cases c
  refine QV ⟨n,d,a.setIfInBounds j v,by rw[b,g],m,by rw[ah p],h,i,by rw[Array.size_setIfInBounds];exact k,?_⟩;rw[TN]
  show(a.toList.set j v).take (yf.n*yf.size)=yf.xs.set j v
  rw[<-l,UM]
theorem aw.srcFi(o:aw T y (cr i)):mV T y.ao y.cap i:=by
 refine⟨?_,fun k l=>?_⟩
 ·rcases o.Vm with ⟨e,b,_⟩ | ⟨g,c,m,n,d,-⟩
  ·have b:i.length=0:=b
   omega
  ·exact d
 ·obtain⟨g,a,j,-⟩:=qq o (show 0<i.length by omega)
  obtain⟨f,h⟩:=v9 i k l;exact⟨g,a,j,o.cell a (k*2) _ f,o.cell a (k*2+1) _ h⟩
set_option maxRecDepth 512
theorem IX(w:World) :
  Calls prog 28 #[] w fun e a=>e=.returned (.pointer (some ⟨w.heap.size,0,none⟩))/\fB a w.heap.size [] ⟨none,0⟩ false (.pointer none) (.slice none 0 0) (.slice none 0 0)/\ab [] w a:=by
 have b:Hid (fB (w.alloc (.cells #[.slice none 0 0,.bool false,.pointer none,.slice none 0 0,.slice none 0 0] 85)) w.heap.size [] ⟨none,0⟩ false (.pointer none) (.slice none 0 0) (.slice none 0 0)):=⟨QS _ _,QZ _ _ _ _,(by intro e;cases e),by simp⟩;go_enter func28,ntmps28;go_wp2;go_ret;exact⟨rfl,b.out,(ab.refl [] _).alloc _⟩
def PU(w:World)(v:Nat)(fs:Fs)(h:Hd)(n d:ByteArray)(p2 p3 p4:Value)(e:Ending)(w':World):Prop :=
 e=.returned (.int .i64 (fc fs n d).1)/\((fc fs n d).1=0->∃h',fB w' v (fc fs n d).2 h' false p2 p3 p4/\uY w w' v h h')/\((fc fs n d).1≠0->ab [] w w')
theorem fB.off(a:fB T n i y y7 g s u):fB (T.setCell ⟨n,1,none⟩ (.bool false)) n i y false g s u:=by
 have k:ab [n] T (T.setCell ⟨n,1,none⟩ (.bool false)):=(ab.refl _ _).setCell (Q1 (by simp)) _;exact⟨by rw[ah a.d];rfl,a.own.Vg (fun q b=>k.block q (a.own.lt b) (by simp;intro e;exact a.far (by rw[<-e];exact b))),a.far,a.le⟩
theorem uY.set(r:uY T d n y D)(i:Nat)(u:Value):uY T (d.setCell ⟨n,i,none⟩ u) n y D:=⟨r.kept.setCell (Q1 (by simp)) _,r.blk⟩
theorem fB.grown{b:Fs}(a:fB T n i y y7 g s u)(h:bt T d y D)(o:aw d D (cr b))(l:b.length<=4){m:Nat}(p:m=b.length):fB (d.setCell ⟨n,0,none⟩ (.slice D.ao m D.cap)) n b D y7 g s u:=by
 have j:=h.kept.get a.d (fun f=>a.far (aN f));have r:=ae a.d
 have c:D.blk≠some n:=by
  rcases h.blk with e | ⟨q,e,f⟩
  ·rw[e];exact a.far
  ·rw[e];intro x;cases x;omega
 have k:ab [n] d (d.setCell ⟨n,0,none⟩ (.slice D.ao m D.cap)):=(ab.refl _ _).setCell (Q1 (by simp)) _;subst p;exact⟨by rw[ah j];rfl,o.Vg (fun q f=>k.block q (o.lt f) (by simp;intro e;exact c (by rw[<-e];exact f))),c,l⟩
theorem fB.wrote(c:fB T n i y y7 g s u)(f:y.ao=some ⟨a,0,none⟩)(j:I<i.length)(b d:ByteArray):fB ((T.setCell ⟨a,I*2,none⟩ (.string b)).setCell ⟨a,I*2+1,none⟩ (.string d)).drew n (i.set I (b,d)) y y7 g s u:=by
 have h:y.blk=some a:=by unfold Hd.blk;rw[f];rfl
 have k:ab [a] T ((T.setCell ⟨a,I*2,none⟩ (.string b)).setCell ⟨a,I*2+1,none⟩ (.string d)).drew:=(((ab.refl _ _).setCell (Q1 (by simp)) _).setCell (Q1 (by simp)) _).drew
 have l:aw ((T.setCell ⟨a,I*2,none⟩ (.string b)).setCell ⟨a,I*2+1,none⟩ (.string d)) y (cr (i.set I (b,d))):=by
  have:=(c.own.putAt f (I*2) (.string b)).putAt f (I*2+1) (.string d)
  have e:(⟨(cr i).e,(cr i).size,(cr i).n,((cr i).xs.set (I*2) (.string b)).set (I*2+1) (.string d)⟩:dN)=cr (i.set I (b,d)):=by
   simp only[cr,List.length_set];rw[Gk i I b d j]
  rw[e]at this;exact this
 refine⟨?_,l.Vb (ab.refl [] _).drew,c.far,by rw[Rv];exact c.le⟩;rw[Rv];exact k.get c.d (by simp;intro e;exact c.far (by rw[h,e]))
set_option maxRecDepth 100000
theorem Jm(b:Fs)(h:Hd)(M:Bool)(p2 p3 p4:Value)(n d:ByteArray)(w:World)(R:fB w S b h M p2 p3 p4)(hn:n.size<=1073741824)(hd:d.size<=4294967296) :
  Calls prog 15 #[.pointer (some ⟨S,0,none⟩),.string n,.string d] w fun e w'=>PU w S b h n d p2 p3 p4 e w':=by
 have E:Hid (Calls prog 34 #[.string n,.string d] w fun e w'=>e=.returned (.int .i64 (cJ n d))/\w'=w):=BE n d w hn hd
 cases H:(cJ n d==0)
 ·have s:Hid (fc b n d=(cJ n d,b)):=by show _=_;unfold fc;rw[QW (by simpa using H)]
  have HR:Hid _:=R;generalize cJ n d=c at *;go_enter func15,ntmps15;go_wp2_with (go_at_call 34;refine QU E.out ?_;rintro e D ⟨rfl,a⟩;rw[a];clear a);go_ret;exact⟨by rw[s.out];rfl,by rw[s.out];exact⟨(fun q=>by rw[show c=0 from q]at H;cases H),fun _=>ab.refl _ _⟩⟩
 ·have o:cJ n d=0:=by simpa using H
  rw[o]at E;obtain⟨W,F⟩:∃W,Hid (w.alloc (.cells #[.string n,.string d] 68)=W):=⟨_,rfl⟩
  have kW:ab [] w W:=by rw[<-F.out];exact(ab.refl [] _).alloc _
  have N:W.heap[w.heap.size]?=some (.cells #[.string n,.string d] 68 (0,0)):=by rw[<-F.out];exact QS _ _
  have i:=R.Vb kW;have f:Hid _:=i;have O:W.cell? ⟨S,0,none⟩=some (.slice h.ao b.length h.cap):=by rw[aa i.d];rfl
  have c1:W.cell? ⟨S,1,none⟩=some (.bool M):=by rw[aa i.d];rfl
  have f0:=am i.d 0;have f1:=am i.d 1;have z0:=ae i.d;have b0:W.cell? ⟨w.heap.size,0,none⟩=some (.string n):=by rw[aa N];rfl
  have b1:W.cell? ⟨w.heap.size,1,none⟩=some (.string d):=by rw[aa N];rfl
  have zb:=ae N;have y:Hid _:=kW;have V:=R.le;have l:Hid _:=(mu b h.ao h.cap n W (by omega) i.own.srcFi);clear i R kW N H;obtain⟨m,A⟩:∃m,Hid (b.length=m):=⟨_,rfl⟩
  rw[A.out]at O l V
  rcases pI n b with v | ⟨k,J,v⟩
  ·rw[v]at l
   by_cases hl:m=4
   ·have s:Hid (fc b n d=(1,b)):=by show _=_;unfold fc;rw[QT (by simpa using o),v,QT (by omega),QW (by rw[A.out];omega)]
    subst hl;clear v o;go_enter func15,ntmps15
    go_upto_region 5 with (go_at_call 34;refine QU E.out ?_;rintro e D ⟨rfl,a⟩;rw[a];clear a)
    rw[F.out];go_wp2_with (go_at_call 35;refine QU l.out ?_;rintro e D ⟨rfl,a⟩;rw[a];clear a);go_ret;exact⟨by rw[s.out];rfl,by rw[s.out];exact⟨(fun q=>by cases q),fun _=>y.out⟩⟩
   ·have s:Hid (fc b n d=(0,b++[(n,d)])):=by show _=_;unfold fc;rw[QT (by simpa using o),v,QT (by omega),QT (by rw[A.out];omega)]
    have ap:((m:Int)==4)=false:=by simp;omega
    have z:Hid ((cr b).n=m):=A.out;clear v o;obtain⟨i0,hi,Y,Z,ac⟩:=Re zZ;have hD:Hid (fB (W.alloc (.cells #[.string n,.string d] 68)).drew S b h M p2 p3 p4):=f.out.Vb ((ab.refl [] W).alloc _).drew
    have s2:Hid (∀j u,([.string n,.string d]:List Value)[j]?=some u->(W.alloc (.cells #[.string n,.string d] 68)).drew.cell? ((⟨W.heap.size,0,none⟩:Addr).add j)=some u):=by
     intro j u hj;rw[bL];have J:(W.alloc (.cells #[.string n,.string d] 68)).drew.heap[W.heap.size]?=some (.cells #[.string n,.string d] 68 (0,0)):=QS _ _;rw[aa J];simpa using hj
    have s3:Hid (∀u∈([.string n,.string d]:List Value),u.oneCell'=true):=by intro u hu;simp only[List.mem_cons,List.not_mem_nil,or_false]at hu;rcases hu with rfl | rfl <;> rfl
    have s4:Hid ((cr b).n+1<=maxLen):=by show _<=_;rw[z.out];unfold maxLen;omega
    have s5:Hid (((cr b).n+1)*32<=140737488355328):=by show _<=_;rw[z.out];omega
    go_enter func15,ntmps15
    go_upto_region 5 with (go_at_call 34;refine QU E.out ?_;rintro e D ⟨rfl,a⟩;rw[a];clear a)
    rw[F.out]
    go_upto_region 9 with (go_at_call 35;refine QU l.out ?_;rintro e D ⟨rfl,a⟩;rw[a];clear a)
    go_region_law (refine cd rfl (.tmp 41) (.tmp 43) 33 rfl i0 (.agg #[.string ⟨#[]⟩,.string ⟨#[]⟩]) 32 h (cr b) underlying33 hi Y Z ac rfl (show 0<2 by omega) (by rw[z.out];simp[Act.eval]) hD.out.own ⟨W.heap.size,0,none⟩ 1 1 [.string n,.string d] (by simp[Act.eval]) rfl s2.out s3.out Rc s4.out s5.out ?_;intro Q p T K x I;have U:=(show Hid (bt W T h ⟨some ⟨Q,0,none⟩,p⟩) from(bt.Vb ((ab.refl [] W).alloc _).drew).trans (bt.made x (by simpa using I)));have P:=U.out.kept.get f.out.d (fun hq=>f.out.far (aN hq));have e5:=am P 0;have e6:T.cell? ⟨S,0,none⟩=some (.slice h.ao m h.cap):=(by rw[aa P,<-A.out];rfl);have z5:=ae P)
    all_goals
     have L:aw T ⟨some ⟨Q,0,none⟩,p⟩ (cr (b++[(n,d)])):=by rw[<-wX];exact K
     have r:Hid _:=(f.out.grown (m:=(cr b).n+1) U.out L (by simp;rw[A.out];omega) (by simp[cr]));obtain⟨X,C⟩:∃X,Hid (T.setCell ⟨S,0,none⟩ (.slice (some ⟨Q,0,none⟩) ((cr b).n+1) p)=X):=⟨_,rfl⟩
     have t:=(show Hid (uY w X S h ⟨some ⟨Q,0,none⟩,p⟩) by rw[<-C.out];exact((uY.of (bt.Vb y.out)).trans (uY.of U.out)).set 0 _);rw[C.out]at r ⊢;have x1:=am r.out.d 1;have x2:X.cell? ⟨S,1,none⟩=some (.bool M):=by rw[aa r.out.d];rfl
     have x3:=ae r.out.d;clear K x I P e5 e6 z5 L O c1 f0 f1 C;go_wp2;go_ret;exact⟨by rw[s.out];rfl,by rw[s.out];exact⟨fun _=>⟨_,r.out.off,t.out.set 1 _⟩,fun q=>absurd rfl q⟩⟩
  ·have s:Hid (fc b n d=(0,b.set k (n,d))):=by show _=_;unfold fc;rw[QT (by simpa using o),v,QW (by omega),Sa]
   rw[v]at l;obtain⟨g,B,af,ag⟩:=qq f.out.own (show 0<b.length by omega);obtain⟨g',G,-,q0,q1⟩:=f.out.own.srcFi.2 k J;rw[B]at G
   cases G
   have r:Hid _:=f.out.wrote B J n d;have al:(k:Int)<(m:Int):=by rw[A.out]at J;omega
   have ai:(0:Int)<=(k:Int):=by omega
   have an:¬(k:Int)<0:=by omega
   have u0:W.frozen? ⟨g,k*2,none⟩=false/\W.frozen? ⟨g,k*2+1,none⟩=false:=by
    rcases f.out.own.Vm with ⟨e,-,-⟩ | ⟨g2,ad,e1,G,-⟩
    ·rw[e]at B;cases B
    ·rw[B]at e1;cases e1
     exact⟨am G _,am G _⟩
   obtain⟨u0,u1⟩:=u0
   have t:Hid (uY w ((W.setCell ⟨g,k*2,none⟩ (.string n)).setCell ⟨g,k*2+1,none⟩ (.string d)).drew S h h):=by
    have hb:h.blk=some g:=by unfold Hd.blk;rw[B];rfl
    have:=y.out.mono (S':=S :: h.blk.toList) (by simp);exact⟨((this.setCell (Q1 (by rw[hb];simp)) _).setCell (Q1 (by rw[hb];simp)) _).drew,Q1 rfl⟩
   rw[B]at O l;clear v o;go_enter func15,ntmps15
   go_upto_region 5 with (go_at_call 34;refine QU E.out ?_;rintro e D ⟨rfl,a⟩;rw[a];clear a)
   rw[F.out]
   go_upto_region 10 with (go_at_call 35;refine QU l.out ?_;rintro e D ⟨rfl,a⟩;rw[a];clear a)
   go_region
   obtain⟨X,C⟩:∃X,Hid (((W.setCell ⟨g,k*2,none⟩ (.string n)).setCell ⟨g,k*2+1,none⟩ (.string d)).drew=X):=⟨_,rfl⟩
   rw[C.out]at r t ⊢;have x1:=am r.out.d 1;have x2:X.cell? ⟨S,1,none⟩=some (.bool M):=by rw[aa r.out.d];rfl
   have x3:=ae r.out.d;clear O c1 f0 f1 C q0 q1 u0 u1;go_wp2;go_ret;exact⟨by rw[s.out];rfl,by rw[s.out];exact⟨fun _=>⟨_,r.out.off,t.out.set 1 _⟩,fun q=>absurd rfl q⟩⟩
def NS(x:jS×Hd):List Value:=[.slice x.2.ao x.1.st.length x.2.cap,.int .i64 x.1.why,.string x.1.file,.int .i64 x.1.line,.int .i64 x.1.col]
theorem NT:(NS yz).length=5:=rfl
def fP(L:List (jS×Hd)):dN:=kU 122 5 NS L
def fM(L:List ik):dN:=kU 38 6 jJ L
structure Om(w:World)(v b:Nat)(x0 x1:Value)(PS:List (jS×Hd))(aoP:Option Addr)(cP:Nat)(RS:List ik)(aoR:Option Addr)(cR:Nat):Prop where
 d:w.heap[v]?=some (.cells #[x0,x1,.pointer (some ⟨b,0,none⟩),.slice aoP PS.length cP,.slice aoR RS.length cR] 85 (0,0))
 p:cm w aoP 5 NS PS
 q:∀x∈PS,cm w x.2.ao 6 kV x.1.st
 r:cm w aoR 6 jJ RS
theorem Om.Vb{f:List ik}{b:Option Addr}{h:Nat}(e:Om T n a g s c yy I f b h)(k:ab [] T d):Om d n a g s c yy I f b h :=
 ⟨k.get e.d (by simp),e.p.Vb k,fun x i=>(e.q x i).Vb k,e.r.Vb k⟩
def ff(RS:List ik)(a:Nat):ik:=RS.getD a N8
theorem Az(b:List ik)(a:Nat)(h:a<b.length):b[a]?=some (ff b a):=by
 unfold ff;rw[QQ,QP h];rfl
def fR(RS:List ik)(a:Nat):Bool:=((ff RS a).Vc==4)||((ff RS a).Vc==5)
theorem JM(u v:Value)(o:List (jS×Hd))(i:Option Addr)(p:Nat)(a:List ik)(j:Option Addr)(l:Nat)(w:World)(f:Om w yv ys u v o i p a j l)(q:S<a.length) :
  Calls prog 66 #[.pointer (some ⟨yv,0,none⟩),.int .i64 S] w fun e t=>e=.returned (.bool (fR a S))/\t=w:=by
 obtain⟨g,rfl,z,c⟩:=f.r S _ (Az a S q);have x:w.cell? ⟨g,S*6+1,none⟩=some (.int .i64 (ff a S).Vc):=c 1 _ rfl;have y:w.cell? ⟨yv,4,none⟩=some (.slice (some ⟨g,0,none⟩) a.length l):=by rw[aa f.d];rfl
 have A:=ae f.d;have s:(S:Int)<(a.length:Int):=by omega
 have h:Hid (fR a S=(((ff a S).Vc==4)||((ff a S).Vc==5))):=rfl;generalize (ff a S).Vc=n at *;clear f c
 cases k:(n==4)
 ·cases m:(n==5)
  ·have b:Hid (fR a S=false):=by show _=_;rw[h.out,k,m];rfl
   go_enter func66,ntmps66;go_wp2;go_ret;exact⟨aD b.out.symm,rfl⟩
  ·have b:Hid (fR a S=true):=by show _=_;rw[h.out,k,m];rfl
   go_enter func66,ntmps66;go_wp2;go_ret;exact⟨aD b.out.symm,rfl⟩
 ·have b:Hid (fR a S=true):=by show _=_;rw[h.out,k];rfl
  go_enter func66,ntmps66;go_wp2;go_ret;exact⟨aD b.out.symm,rfl⟩
def lr(PS:List (jS×Hd))(t:Nat):jS×Hd:=PS.getD t (⟨[],0,⟨#[]⟩,0,0⟩,⟨none,0⟩)
theorem As(h:S<yg.length):yg[S]?=some (lr yg S):=by
 unfold lr;rw[QQ,QP h];rfl
def jp(PS:List (jS×Hd))(RS:List ik)(a k:Nat):Prop:=∀P:Nat->Prop,P a->(∀t k i:Nat,P t->fR RS t=true->i<(lr PS t).1.st.length->(bO (lr PS t).1.st i).ref=(k:Int)->P k)->P k
theorem jp.self{a:List ik}:jp c a n n:=fun _ h _=>h
theorem jp.step{b:List ik}{t:Nat}(h:jp c b n t)(f:fR b t=true)(g:I<(lr c t).1.st.length)(i:(bO (lr c t).1.st I).ref=(a:Int)):jp c b n a:=fun P e d=>d t a I (h P e d) f g i
def vy(PS:List (jS×Hd))(RS:List ik)(inn:List Bool)(t:Nat):Prop:=inn.getD t false=true->fR RS t=true->∀i,i<(lr PS t).1.st.length->∀k:Nat,(bO (lr PS t).1.st i).ref=(k:Int)->inn.getD k false=true
structure vC(PS:List (jS×Hd))(RS:List ik)(a:Nat)(inn:List Bool):Prop where
 len:inn.length=a+1
 self:inn.getD a false=true
 sub:∀k,inn.getD k false=true->jp PS RS a k
theorem zY(h:S<y6.length):y6[S]?=some (y6.getD S false):=by
 rw[QQ,QP h];rfl
theorem Oa(h:y6.getD S false=true):(y6.set ys true).getD S false=true:=by
 rw[QQ]at h ⊢;rw[RU]
 by_cases e:ys=S
 ·rw[QW e]
  split
  ·rfl
  ·next a=>rw[Rx (by omega)]at h;cases h
 ·rw[QT e];exact h
theorem GK(h:(y6.set ys true).getD S false=true):S=ys∨y6.getD S false=true:=by
 by_cases e:ys=S
 ·exact Q1 e.symm
 ·right
  rw[QQ,RU,QT e,<-QQ]at h;exact h
theorem vC.set{b:List ik}(h:vC c b n ya)(d:jp c b n a):vC c b n (ya.set a true) :=
 ⟨by rw[Rv];exact h.len,Oa ya a n h.self,fun q f=>by
  rcases GK ya a q f with e | e
  ·rw[e];exact d
  ·exact h.sub q e⟩
theorem vC.all{a:List ik}(h:vC c a n ya)(d:∀t,t<=n->vy c a ya t)(k:Nat):ya.getD k false=true ↔ jp c a n k:=by
 refine⟨h.sub k,fun j=>?_⟩;refine j (fun k=>ya.getD k false=true) h.self (fun t k i b l g f=>?_)
 have m:t<=n:=by
  have o:=h.len
  by_cases e:t<ya.length
  ·omega
  ·rw[QQ,Rx (by omega)]at b;cases b
 exact d t m b l i g k f
def Qv(S:List Sm)(inn:List Bool)(t:Nat):Bool:=inn.getD t false&&((au S t).k.toList == [36,97])
def PY(S:List Sm)(RS:List ik)(inn:List Bool)(t:Nat):Bool:=inn.getD t false&&(((au S t).k.toList == [36,112]) && !fR RS t)
def MV(T:List Tk)(S:List Sm)(inn:List Bool)(n:Nat):List ByteArray:=((List.range n).filter (Qv S inn)).map (fun t=>bG T (au S t))
def DK(T:List Tk)(S:List Sm)(RS:List ik)(inn:List Bool)(n:Nat):List ByteArray:=((List.range n).filter (PY S RS inn)).map (fun t=>bG T (au S t))
theorem KC:MV H l y6 (S+1)=MV H l y6 S++(if Qv l y6 S=true then [bG H (au l S)] else []):=by
 unfold MV;rw[gZ,Ry]
 split <;> rfl
theorem KI(b:List ik)(a:List Bool)(n:Nat):DK H l b a (n+1)=DK H l b a n++(if PY l b a n=true then [bG H (au l n)] else []):=by
 unfold DK;rw[gZ,Ry]
 split <;> rfl
def OG(T:List Tk)(S:List Sm)(PS:List (jS×Hd))(RS:List ik)(a:Nat)(w:World)(e:Ending)(w':World):Prop :=
 ∃(inn:List Bool) (h1 h2:Hd),(∀k,inn.getD k false=true ↔ jp PS RS a k)/\e=.returned (.tuple #[.slice h1.ao (MV T S inn (a+1)).length h1.cap,.slice h2.ao (DK T S RS inn (a+1)).length h2.cap])/\gw w w' h1 (aB (MV T S inn (a+1)))/\gw w w' h2 (aB (DK T S RS inn (a+1)))
theorem gw.two{f:Hd}{c m:dN}(a:gw T d y yf)(b:gw T d f m)(j:∀k,y.blk=some k->f.blk≠some k)(g:bt d yu y D)(o:aw yu D c):gw T yu D c/\gw T yu f m/\∀k,D.blk=some k->f.blk≠some k:=by
 have l:=a.Vl g o;refine⟨l,⟨g.beside b.own (fun k h i=>j k i h),b.far,l.kept⟩,fun k h i=>?_⟩
 rcases g.blk with e | ⟨q,e,n⟩
 ·exact j k (by rw[<-e];exact h) i
 ·have:=b.own.lt i
  rw[h]at e
  cases e
  omega
theorem jy.out(h:jy T n ya):n<T.heap.size:=ae h
theorem Gr(k:List UInt8)(h:(k == [36,97])=true):(k == [36,112])=false:=by
 have:=TR h;rw[this];rfl
theorem CO(x0 x1:Value)(v:List (jS×Hd))(a2:Option Addr)(cP:Nat)(y:List ik)(cj:Option Addr)(cR:Nat)(w:World)(hD:fz w x H M N l L S)(hJ:Om w k x x0 x1 v a2 cP y cj cR)(dT:f<v.length)(d0:f<y.length)(d1:f<l.length)(ha:f<=10000)(hA:∀j,j<=f->(au l j).a<H.length)(ck:∀t,t<=f->(lr v t).1.st.length<=100000000/\∀i,i<(lr v t).1.st.length->(bO (lr v t).1.st i).ref<=(f:Int)) :
  Calls prog 67 #[.pointer (some ⟨k,0,none⟩),.int .i64 f] w fun e C=>OG H l v y f w e C:=by
 obtain⟨i1,c4,c9,db,df⟩:=Re Ls;obtain⟨iS,co,bc,be,bf⟩:=Re js;have m2:=fun w=>dB (P:=prog) w 134 4 i1 _ underlying134 c4 c9 (f+1) 1 db (by rw[df];omega) (by omega)
 obtain⟨mc,cb⟩:∃mc,Hid (madeCells (Value.bool false).cells ((f+1)*1)=mc):=⟨_,rfl⟩
 have b2:Hid (mc=((List.replicate (f+1) false).map Value.bool).toArray):=by show _=_;rw[<-cb.out,wE]
 rw[cb.out]at m2;have c2:((f+1:Nat):Int)=(f:Int)+1:=by omega
 have m3:=m2 w;rw[c2]at m3;obtain⟨W,HW⟩:∃W,Hid (w.alloc (.cells (mc.setIfInBounds f (.bool true)) 4)=W):=⟨_,rfl⟩
 have a1:jy (w.alloc (.cells mc 4)) w.heap.size (List.replicate (f+1) false):=by
  unfold jy;rw[b2.out];exact QS _ _
 have ch:Hid (jy W w.heap.size ((List.replicate (f+1) false).set f true)):=by
  show jy _ _ _
  unfold jy;rw[<-HW.out,b2.out];refine(QS _ _).trans ?_
  congr 2
  rw[Ru,Tn]
 have cA:Hid (ab [] w W):=by show ab [] w W;rw[<-HW.out];exact(ab.refl [] _).alloc _
 have cf:Hid (vC v y f ((List.replicate (f+1) false).set f true)):=by
  refine⟨by simp,by rw[QQ,Ug (by simp)];rfl,fun m hk=>?_⟩
  rcases GK _ f m hk with e | e
  ·rw[e];exact jp.self
  ·rw[QQ,Sf]at e
   split at e <;> cases e
 have c0:(w.alloc (.cells mc 4)).cell? ⟨w.heap.size,f,none⟩=some (.bool false):=a1.cell f false (by rw[Sf,QW (by omega)]);have f0:=am a1 f;have z0:=ae a1;have d2:(f:Int)<(f:Int)+1:=by omega
 have HD:Hid _:=hD;have HJ:Hid _:=hJ;have HA:Hid _:=hA;have cF:Hid _:=ck;have b5:Hid (∀t,t<=f->∀wx,ab [] w wx->Calls prog 66 #[.pointer (some ⟨k,0,none⟩),.int .i64 t] wx fun e C=>e=.returned (.bool (fR y t))/\C=wx):=fun t ht wx kx=>JM k x t x0 x1 v a2 cP y cj cR wx (hJ.Vb kx) (by omega)
 clear hD hJ hA ck a1 m2;go_enter func67,ntmps67
 go_upto_region 3 with fail
 rw[HW.out];clear c0 f0 z0 m3;go_wp2;obtain⟨V,cy⟩:∃V,Hid ((List.replicate (f+1) false).set f true=V):=⟨_,rfl⟩
 rw[cy.out]at ch cf
 go_loopg [7] (2*aQ V+1) (fun g ag wr=>∃(b:Bool) (a:List Bool),ag=.bool b/\g=2*aQ a+(if b=true then 1 else 0)/\Hid (vC v y f a)/\Hid (b=false->∀t,t<=f->vy v y a t)/\Hid (jy wr w.heap.size a)/\Hid (ab [] w wr))
 case atStart=>exact⟨true,V,rfl,rfl,cf,(fun h=>by cases h),ch,cA⟩
 case round =>
  obtain⟨b,a,rfl,hg,u,bl,o,F⟩:=hrel
  cases b
  ·have cu:Hid _:=vC.all u.out (bl.out rfl)
   have HL:Hid _:=u.out.len;obtain⟨w1,bv⟩:∃w1,Hid (wr=w1):=⟨_,rfl⟩
   rw[bv.out];rw[bv.out]at o F;clear bv bl hg;have b3:Hid (gw w1 w1 ⟨none,0⟩ (aB [])):=⟨QZ _ _ _ _,(by intro m hk;cases hk),ab.refl _ _⟩;have ct:Hid (([]:List ByteArray)=MV H l a 0):=rfl;have cx:Hid (([]:List ByteArray)=DK H l y a 0):=rfl;go_wp2
   go_loopg [12,13,14] (f+1) (fun g ax bd tv wr=>∃(t:Nat) (Z h2:Hd) (A B:List ByteArray),t<=f+1/\g=f+1-t/\ax=.slice Z.ao A.length Z.cap/\bd=.slice h2.ao B.length h2.cap/\tv=.int .i64 t/\(A.length<=t/\B.length<=t)/\Hid (A=MV H l a t)/\Hid (B=DK H l y a t)/\Hid (gw w1 wr Z (aB A))/\Hid (gw w1 wr h2 (aB B))/\Hid (∀m,Z.blk=some m->h2.blk≠some m))
   case atStart=>exact⟨0,⟨none,0⟩,⟨none,0⟩,[],[],by omega,rfl,rfl,rfl,rfl,⟨QR _,QR _⟩,ct,cx,b3,b3,(by intro m hk;cases hk)⟩
   case round =>
    obtain⟨t,Z,h2,A,B,ht,c3,rfl,rfl,rfl,⟨dt,dv⟩,bj,bk,a0,ca,ac⟩:=hrel
    by_cases ar:t<=f
    ·have bx:(t:Int)<=(f:Int):=by omega
     have az:t<l.length:=by omega
     have b0:Hid _:=F.out.trans a0.out.kept
     have b1:Hid (Calls prog 87 #[.pointer (some ⟨x,0,none⟩),.int .i64 t] wr fun e C=>e=.returned (.string (bG H (au l t)))/\ab [] wr C):=by
      have:=nQ x t H M N l L S wr (fz.Vb HD.out b0.out) az (by rw[bM l t az];exact HA.out t ar);rw[bM l t az]at this;exact this
     have J:Hid (∀C:World,ab [] w1 C->C.cell? ⟨w.heap.size,t,none⟩=some (.bool (a.getD t false))/\w.heap.size<C.heap.size/\C.cell? ⟨k,2,none⟩=some (.pointer (some ⟨x,0,none⟩))/\k<C.heap.size/\∃gs,L=some ⟨gs,0,none⟩/\gs<C.heap.size/\C.cell? ⟨x,1,none⟩=some (.slice L l.length S)/\x<C.heap.size/\C.cell? ⟨gs,t*4+3,none⟩=some (.string (au l t).k)):=fun C kw=>by
      have hs:=jy.kept o.out kw (by simp);have hd:=fz.Vb HD.out (F.out.trans kw);have hj:=Om.Vb HJ.out (F.out.trans kw);obtain⟨-,s0,hb⟩:=hd.cells;obtain⟨gs,e3,a5,-,-,-,q3⟩:=hd.s.2 t l[t] (QP az);rw[bM l t az]at q3;exact⟨hs.cell t _ (zY a t (by rw[HL.out];omega)),hs.out,by rw[aa hj.d];rfl,ae hj.d,gs,e3,a5,s0,hb,q3⟩
     have z:Hid _:=b5.out t ar;have ai:Hid _:=KC H l a t;have Q:Hid _:=KI H l y a t;rw[<-bj.out]at ai;rw[<-bk.out]at Q;have bo:Hid (Qv l a t=(a.getD t false&&((au l t).k.toList == [36,97]))):=rfl;have X:Hid (PY l y a t=(a.getD t false&&(((au l t).k.toList == [36,112]) && !fR y t))):=rfl;obtain⟨sd,al⟩:∃sd,Hid (fR y t=sd):=⟨_,rfl⟩
     rw[al.out]at z X;obtain⟨bg,Hx⟩:∃bg,Hid (bG H (au l t)=bg):=⟨_,rfl⟩
     rw[Hx.out]at b1 ai Q;generalize (au l t).k=sk at *;generalize a.getD t false=ib at *;obtain⟨-,-,v2,cq,-⟩:=J.out wr a0.out.kept
     go_upto_region 23 with (go_at_call 87;refine QU b1.out ?_;rintro e w2 ⟨rfl,k2⟩)
     have af:Hid _:=k2;clear k2 v2 cq;have b6:Hid _:=z.out w2 (b0.out.trans af.out)
     go_upto_region 24 with (go_at_call 66;refine QU b6.out ?_;rintro e w3 ⟨rfl,D⟩;rw[D];clear D)
     have R:Hid _:=a0.out.Vb af.out;have Y:Hid _:=ca.out.Vb af.out;obtain⟨y0,y1,y2,y3,gs,rfl,a5,s0,c1,q3⟩:=J.out w2 R.out.kept;have ea:(t:Int)<(l.length:Int):=by omega
     have c8:(t:Int)<(f:Int)+1:=by omega
     have c7:(0:Int)<=(t:Int):=by omega
     cases ib
     ·have O:Hid (A=MV H l a (t+1)):=by show _=_;rw[ai.out,bo.out];simp
      have G:Hid (B=DK H l y a (t+1)):=by show _=_;rw[Q.out,X.out];simp
      go_wp2
      go_roundg (f+1-(t+1))
      case measure=>omega
      case rel=>exact⟨t+1,Z,h2,A,B,by omega,rfl,rfl,rfl,by go_num,⟨by omega,by omega⟩,O,G,R,Y,ac⟩
     ·cases a6:(sk.toList == [36,97])
      ·have O:Hid (A=MV H l a (t+1)):=by show _=_;rw[ai.out,bo.out,a6];simp
       cases ap:(sk.toList == [36,112])
       ·have G:Hid (B=DK H l y a (t+1)):=by show _=_;rw[Q.out,X.out,ap];simp
        go_wp2
        go_roundg (f+1-(t+1))
        case measure=>omega
        case rel=>exact⟨t+1,Z,h2,A,B,by omega,rfl,rfl,rfl,by go_num,⟨by omega,by omega⟩,O,G,R,Y,ac⟩
       ·cases sd
        ·have G:Hid (B++[bg]=DK H l y a (t+1)):=by show _=_;rw[Q.out,X.out,ap];simp
         have a4:=Y.out.own;have a3:(aB B).n<=900000000:=by show B.length<=_;omega
         go_wp2_with (at_builtin;refine bN _ rfl (.tmp 136) (.tmp 138) 61 rfl iS (.string ⟨#[]⟩) 16 h2 (aB B) [.string bg] underlying61 co bc be bf rfl Rc rfl a4 a3 (by omega) rfl rfl (by simp[Value.oneCell']) ?_;intro h5 w5 U an;rw[dr]at U;have I:Hid _:=(gw.two Y.out R.out (fun m hk hq=>ac.out m hq hk) an U);clear U an)
         go_roundg (f+1-(t+1))
         case measure=>omega
         case rel=>exact⟨t+1,Z,h5,A,B++[bg],by omega,rfl,rfl,by simp[aB],by go_num,⟨by omega,by simp;omega⟩,O,G,I.out.2.1,I.out.1,(fun m hk hq=>I.out.2.2 m hq hk)⟩
        ·have G:Hid (B=DK H l y a (t+1)):=by show _=_;rw[Q.out,X.out,ap];simp
         go_wp2
         go_roundg (f+1-(t+1))
         case measure=>omega
         case rel=>exact⟨t+1,Z,h2,A,B,by omega,rfl,rfl,rfl,by go_num,⟨by omega,by omega⟩,O,G,R,Y,ac⟩
      ·have ap:=Gr _ a6
       have O:Hid (A++[bg]=MV H l a (t+1)):=by show _=_;rw[ai.out,bo.out,a6];simp
       have G:Hid (B=DK H l y a (t+1)):=by show _=_;rw[Q.out,X.out,ap];simp
       have a4:=R.out.own;have a3:(aB A).n<=900000000:=by show A.length<=_;omega
       go_upto_region 26 with (at_builtin;refine bN _ rfl (.tmp 110) (.tmp 112) 61 rfl iS (.string ⟨#[]⟩) 16 Z (aB A) [.string bg] underlying61 co bc be bf rfl Rc rfl a4 a3 (by omega) rfl rfl (by simp[Value.oneCell']) ?_;intro h5 w5 U an;rw[dr]at U;have I:Hid _:=gw.two R.out Y.out ac.out an U;clear U an)
       obtain⟨z0,z1,z2,z3,ds,ez,dl,z4,z5,z6⟩:=J.out w5 I.out.1.kept
       cases ez
       clear y0 y1 y2 y3 a5 s0 c1 q3 a4 a3;go_wp2
       go_roundg (f+1-(t+1))
       case measure=>omega
       case rel=>exact⟨t+1,h5,h2,A++[bg],B,by omega,rfl,by simp[aB],rfl,by go_num,⟨by simp;omega,by omega⟩,O,G,I.out.1,I.out.2.1,I.out.2.2⟩
    ·have et:t=f+1:=by omega
     subst et;have bx:¬(f:Int)+1<=(f:Int):=by omega
     go_wp2;go_ret2;exact⟨a,Z,h2,cu.out,by rw[<-bj.out,<-bk.out];rfl,by rw[<-bj.out];exact a0.out.base F.out,by rw[<-bk.out];exact ca.out.base F.out⟩
  ·obtain⟨c,Hc⟩:∃c,Hid (aQ a=c):=⟨_,rfl⟩
   rw[Hc.out]at hg;have hg:_=2*c+1:=hg;have bz:Hid (aQ a<=c):=by show _<=_;rw[Hc.out];omega
   clear bl;go_wp2
   go_loopg [7,8] (f+1) (fun g2 ag tv wr=>∃(t:Nat) (b:Bool) (a:List Bool),t<=f+1/\g2=f+1-t/\ag=.bool b/\tv=.int .i64 t/\Hid (aQ a<=c/\(b=true->aQ a<c))/\Hid (b=false->∀E,E<t->vy v y a E)/\Hid (vC v y f a)/\Hid (jy wr w.heap.size a)/\Hid (ab [] w wr))
   case atStart=>exact⟨0,false,a,by omega,rfl,rfl,rfl,⟨bz.out,fun h=>by cases h⟩,(fun _ t ht=>absurd ht (T0 t)),u,o,F⟩
   case round =>
    clear bz u o F Hc;obtain⟨t,b,a,ht,c3,rfl,rfl,HC,HT,u,o,F⟩:=hrel
    by_cases ar:t<=f
    ·have bx:(t:Int)<=(f:Int):=by omega
     have z:Hid _:=b5.out t ar wr F.out;have y0:=jy.cell o.out t _ (zY a t (by rw[u.out.len];omega));have y1:=jy.out o.out;obtain⟨sd,al⟩:∃sd,Hid (fR y t=sd):=⟨_,rfl⟩
     rw[al.out]at z;obtain⟨ib,T⟩:∃ib,Hid (a.getD t false=ib):=⟨_,rfl⟩
     rw[T.out]at y0;have c7:(0:Int)<=(t:Int):=by omega
     have c8:(t:Int)<(f:Int)+1:=by omega
     have br:Hid (vy v y a t->b=false->∀E,E<t+1->vy v y a E):=fun hc h E c6=>by
      by_cases e:E=t
      ·rw[e];exact hc
      ·exact HT.out h E (by omega)
     cases ib
     ·have HM:Hid _:=br.out (fun h=>by rw[T.out]at h;cases h)
      go_wp2_with (go_at_call 66;refine QU z.out ?_;rintro e w3 ⟨rfl,D⟩;rw[D];clear D)
      go_roundg (f+1-(t+1))
      case measure=>omega
      case rel=>exact⟨t+1,b,a,by omega,rfl,rfl,by go_num,HC,HM,u,o,F⟩
     ·cases sd
      ·have HM:Hid _:=br.out (fun _ h=>by rw[al.out]at h;cases h)
       go_wp2_with (go_at_call 66;refine QU z.out ?_;rintro e w3 ⟨rfl,D⟩;rw[D];clear D)
       go_roundg (f+1-(t+1))
       case measure=>omega
       case rel=>exact⟨t+1,b,a,by omega,rfl,rfl,by go_num,HC,HM,u,o,F⟩
      ·have cE:Hid _:=u.out.sub t T.out
       obtain⟨cp,aT⟩:=cF.out t ar;have aT:Hid _:=aT;have d9:(t:Int)<(v.length:Int):=by omega
       have J:Hid (∀C:World,ab [] w C->∃gP,a2=some ⟨gP,0,none⟩/\gP<C.heap.size/\C.cell? ⟨k,3,none⟩=some (.slice a2 v.length cP)/\k<C.heap.size/\C.cell? ⟨gP,t*5,none⟩=some (.slice (lr v t).2.ao (lr v t).1.st.length (lr v t).2.cap)/\cm C (lr v t).2.ao 6 kV (lr v t).1.st):=fun C kw=>by
        have hj:=Om.Vb HJ.out kw;obtain⟨gP,e,cl,cc⟩:=hj.p t _ (As v t (by omega));exact⟨gP,e,cl,by rw[aa hj.d];rfl,ae hj.d,cc 0 _ rfl,hj.q _ (R4 (As v t (by omega)))⟩
       have a7:Hid (∀a:List Bool,(∀i,i<(lr v t).1.st.length->∀m:Nat,(bO (lr v t).1.st i).ref=(m:Int)->a.getD m false=true)->vy v y a t):=fun _ h _ _=>h
       have ba:Hid (∀i,i<(lr v t).1.st.length->∀m:Nat,(bO (lr v t).1.st i).ref=(m:Int)->jp v y f m):=fun i hi m he=>jp.step cE.out al.out hi he
       have ad:Hid (b=false->(∀E,E<t->vy v y a E)/\∀i,i<0->∀m:Nat,(bO (lr v t).1.st i).ref=(m:Int)->a.getD m false=true):=fun h=>⟨HT.out h,fun i hi=>by omega⟩
       obtain⟨K,cX⟩:∃K,Hid ((lr v t).1.st=K):=⟨_,rfl⟩
       obtain⟨hd,cV⟩:∃hd,Hid ((lr v t).2=hd):=⟨_,rfl⟩
       rw[cX.out]at J a7 ba ad cp aT;rw[cV.out]at J;obtain⟨dk,dp⟩:=hd;simp only at J;go_wp2_with (go_at_call 66;refine QU z.out ?_;rintro e w3 ⟨rfl,D⟩;rw[D];clear D)
       go_loopg [7,10] K.length (fun g3 ag iv wr=>∃(i:Nat) (b:Bool) (a:List Bool),i<=K.length/\g3=K.length-i/\ag=.bool b/\iv=.int .i64 i/\Hid (aQ a<=c/\(b=true->aQ a<c))/\Hid (b=false->(∀E,E<t->vy v y a E)/\∀i',i'<i->∀m:Nat,(bO K i').ref=(m:Int)->a.getD m false=true)/\Hid (vC v y f a)/\Hid (jy wr w.heap.size a)/\Hid (ab [] w wr))
       case atStart=>exact⟨0,b,a,by omega,rfl,rfl,rfl,HC,ad,u,o,F⟩
       case round =>
        clear HC ad HT u o F br y0 y1 T z;obtain⟨i,b,a,hi,d3,rfl,rfl,HC,HT,u,o,F⟩:=hrel;obtain⟨gP,rfl,cl,v3,cq,p0,bp⟩:=J.out wr F.out
        by_cases bw:i<K.length
        ·have d6:(i:Int)<(K.length:Int):=by omega
         obtain⟨gs,es,a5,cs⟩:=bp i _ (GO K i bw);replace es:dk=some ⟨gs,0,none⟩:=es;subst es;have s0:wr.cell? ⟨gs,i*6,none⟩=some (.int .i64 (bO K i).ref):=cs 0 _ rfl;have cB:Hid _:=aT.out i bw;have cH:Hid _:=ba.out i bw
         have b4:Hid (b=false->(∀m:Nat,(bO K i).ref=(m:Int)->a.getD m false=true)->(∀E,E<t->vy v y a E)/\∀i',i'<i+1->∀m:Nat,(bO K i').ref=(m:Int)->a.getD m false=true):=fun h hk=>⟨(HT.out h).1,fun i' d4 m he=>by
          by_cases e:i'=i
          ·subst e;exact hk m he
          ·exact(HT.out h).2 i' (by omega) m he⟩
         generalize (bO K i).ref=r at *;clear cs bp;have d5:(0:Int)<=(i:Int):=by omega
         by_cases c5:(0:Int)<=r
         ·obtain⟨m,rfl⟩:=Int.eq_ofNat_of_zero_le c5
          have a6:m<=f:=by have:=cB.out;omega
          have d8:(m:Int)<(f:Int)+1:=by omega
          have y0:=jy.cell o.out m _ (zY a m (by rw[u.out.len];omega));have y1:=jy.out o.out;have bT:Hid _:=(zY a m (by rw[u.out.len];omega));obtain⟨ib,T⟩:∃ib,Hid (a.getD m false=ib):=⟨_,rfl⟩
          rw[T.out]at y0 bT;have d7:(0:Int)<=(m:Int):=by omega
          cases ib
          ·have HU:Hid _:=lC a m bT.out
           have aS:Hid (aQ (a.set m true)<c):=by
            have Z:=HU.out;have h2:=HC.out.1
            show _<_
            omega
           have cz:Hid _:=vC.set u.out (cH.out m rfl);obtain⟨W3,bs⟩:∃W3,Hid (wr.setCell ⟨w.heap.size,m,none⟩ (.bool true)=W3):=⟨_,rfl⟩
           have cL:Hid (jy W3 w.heap.size (a.set m true)):=by show jy _ _ _;rw[<-bs.out];exact jy.set o.out m
           have af:Hid (ab [] w W3):=by show ab [] w W3;rw[<-bs.out];exact F.out.setCell (QV (by simp)) _
           have f0:=am o.out m
           go_upto_region 17 with fail
           rw[bs.out];go_wp2
           go_roundg (K.length-(i+1))
           case measure=>omega
           case rel=>exact⟨i+1,true,a.set m true,by omega,rfl,rfl,by go_num,⟨RM aS.out,fun _=>aS.out⟩,(fun h=>by cases h),cz,cL,af⟩
          ·have HM:Hid _:=fun h=>b4.out h (fun q hq=>by rw[show q=m by omega];exact T.out)
           go_wp2
           go_roundg (K.length-(i+1))
           case measure=>omega
           case rel=>exact⟨i+1,b,a,by omega,rfl,rfl,by go_num,HC,HM,u,o,F⟩
         ·have HM:Hid _:=fun h=>b4.out h (fun q hq=>absurd hq (by omega))
          go_wp2
          go_roundg (K.length-(i+1))
          case measure=>omega
          case rel=>exact⟨i+1,b,a,by omega,rfl,rfl,by go_num,HC,HM,u,o,F⟩
        ·have ei:i=K.length:=by omega
         subst ei
         have HM:Hid (b=false->∀E,E<t+1->vy v y a E):=fun h E c6=>by
          by_cases e:E=t
          ·rw[e];exact a7.out a (HT.out h).2
          ·exact(HT.out h).1 E (by omega)
         clear bp;go_wp2
         go_roundg (f+1-(t+1))
         case measure=>omega
         case rel=>exact⟨t+1,b,a,by omega,rfl,rfl,by go_num,HC,HM,u,o,F⟩
    ·have et:t=f+1:=by omega
     subst et;have bx:¬(f:Int)+1<=(f:Int):=by omega
     have HM:Hid (b=false->∀t,t<=f->vy v y a t):=fun h t ht=>HT.out h t (by omega)
     have dz:=HC.out.1;have aS:Hid _:=HC.out.2;go_wp2
     go_roundg (2*aQ a+(if b=true then 1 else 0))
     case measure =>
      cases b
      ·rw[QT (by simp)];omega
      ·have:=aS.out rfl
       rw[QW rfl];omega
     case rel=>exact⟨b,a,rfl,rfl,u,HM,o,F⟩
theorem OW:(prog.info? 122).map (fun i=>(i.zero,i.size,i.bytes))=some (some (.agg #[.slice none 0 0,.int .i64 0,.string ⟨#[]⟩,.int .i64 0,.int .i64 0]),5,64):=by kernel_rfl
theorem Gp:(prog.info? 38).map (fun i=>(i.zero,i.size,i.bytes))=some (some (.agg #[.string ⟨#[]⟩,.int .i64 0,.int .i64 0,.string ⟨#[]⟩,.int .i64 0,.int .i64 0]),6,64):=by kernel_rfl
theorem pV:(⟨(fP yg).e,(fP yg).size,(fP yg).n+1,(fP yg).xs++NS yz⟩:dN)=fP (yg++[yz]):=gM _ _ _ _ _
theorem rL(L:List ik)(x:ik):(⟨(fM L).e,(fM L).size,(fM L).n+1,(fM L).xs++jJ x⟩:dN)=fM (L++[x]):=gM _ _ _ _ _
theorem cm.keptS{α:Type}{f:α->List Value}{L:List α}(h:cm T yy n f L)(k:ab yt T d)(b:∀g,yy=some ⟨g,0,none⟩->g∉yt):cm d yy n f L:=fun j x m=>by
 obtain⟨g,e,a,c⟩:=h j x m;exact⟨g,e,QX a k.size,fun i u l=>by rw[Q6 (k.block g a (b g e))];exact c i u l⟩
def Kl(w:World)(h1 h2:Hd)(x:jS×Hd):Prop:=∀g,x.2.ao=some ⟨g,0,none⟩->w.heap.size<=g/\h1.blk≠some g/\h2.blk≠some g
structure vD(w wr:World)(v b:Nat)(x0 x1:Value)(PS:List (jS×Hd))(h1:Hd)(RS:List ik)(h2:Hd):Prop where
 d:wr.heap[v]?=some (.cells #[x0,x1,.pointer (some ⟨b,0,none⟩),.slice h1.ao PS.length h1.cap,.slice h2.ao RS.length h2.cap] 85 (0,0))
 lt:v<w.heap.size
 o1:aw wr h1 (fP PS)
 o2:aw wr h2 (fM RS)
 f1:∀k,h1.blk=some k->w.heap.size<=k
 f2:∀k,h2.blk=some k->w.heap.size<=k
 ap:∀k,h1.blk=some k->h2.blk≠some k
 kept:ab [v] w wr
 q:∀x∈PS,cm wr x.2.ao 6 kV x.1.st/\Kl w h1 h2 x
 ql:∀x∈PS,∀g,x.2.ao=some ⟨g,0,none⟩->g<wr.heap.size
variable {w wr w':World} {v b:Nat} {x0 x1:Value} {PS:List (jS×Hd)} {h1 h1':Hd} {RS:List ik} {h2 h2':Hd}
theorem oB{v:Nat}(k:ab [] T d):ab [v] T d:=k.mono (by simp)
theorem vD.Vb(a:vD w wr v b x0 x1 PS h1 RS h2)(k:ab [] wr w'):vD w w' v b x0 x1 PS h1 RS h2 :=
 ⟨k.get a.d (by simp),a.lt,a.o1.Vb k,a.o2.Vb k,a.f1,a.f2,a.ap,a.kept.trans (oB k),fun x c=>⟨(a.q x c).1.Vb k,(a.q x c).2⟩,fun x c g e=>QX (a.ql x c g e) k.size⟩
theorem vD.jds(a:vD w wr v b x0 x1 PS h1 RS h2):Om wr v b x0 x1 PS h1.ao h1.cap RS h2.ao h2.cap :=
 ⟨a.d,a.o1.srcG NT,fun x c=>(a.q x c).1,a.o2.srcG xf⟩
theorem tK(e:y.ao=some ⟨n,0,none⟩):y.blk=some n:=by unfold Hd.blk;rw[e];rfl
theorem vD.addP(a:vD w wr v b x0 x1 PS h1 RS h2)(x:jS×Hd)(E:cm wr x.2.ao 6 kV x.1.st)(B:Kl w h1 h2 x)(t:∀g,x.2.ao=some ⟨g,0,none⟩->g<wr.heap.size)(g:bt wr w' h1 h1')(o:aw w' h1' (fP (PS++[x])))(m:Nat)(C:m=PS.length+1) :
  vD w (w'.setCell ⟨v,3,none⟩ (.slice h1'.ao m h1'.cap)) v b x0 x1 (PS++[x]) h1' RS h2:=by
 have u:v∉h1.blk.toList:=fun c=>by have:=a.f1 _ (aN c);have:=a.lt;omega
 have A:=g.kept.get a.d u;have D:v<wr.heap.size:=ae a.d;have s:ab [v] w' (w'.setCell ⟨v,3,none⟩ (.slice h1'.ao m h1'.cap)):=(ab.refl _ _).setCell (Q1 (by simp)) _
 have j:∀k,h1'.blk=some k->w.heap.size<=k:=fun k f=>by
  rcases g.blk with e | ⟨q,e,c⟩
  ·exact a.f1 k (by rw[<-e];exact f)
  ·rw[f]at e;cases e;exact Q3 a.kept.size c
 have i:∀y∈PS++[x],cm wr y.2.ao 6 kV y.1.st/\Kl w h1 h2 y/\∀g,y.2.ao=some ⟨g,0,none⟩->g<wr.heap.size:=fun y l=>by
  rcases Rr.1 l with h | h
  ·exact⟨(a.q y h).1,(a.q y h).2,a.ql y h⟩
  ·rw[Q9]at h;subst h;exact⟨E,B,t⟩
 refine⟨?_,a.lt,?_,?_,j,a.f2,?_,?_,?_,?_⟩
 ·rw[ah A 3]
  congr 2
  rw[C,Q0];rfl
 ·exact o.Vk (fun k f e=>by have:=j k f;have:=a.lt;omega) _ _
 ·exact(g.beside a.o2 (fun k f c=>a.ap k c f)).Vk (fun k f e=>by have:=a.f2 k f;have:=a.lt;omega) _ _
 ·intro k f c
  rcases g.blk with e | ⟨q,e,t⟩
  ·exact a.ap k (by rw[<-e];exact f) c
  ·have:=a.o2.lt c
   rw[f]at e;cases e;omega
 ·refine⟨g.kept.os.trans a.kept.os,g.kept.tape.trans a.kept.tape,g.kept.output.trans a.kept.output,?_,fun k f z=>?_⟩
  ·exact Q3 (Q3 a.kept.size g.kept.size) s.size
  ·have h1:=a.kept.size
   have h2:=g.kept.size;rw[s.block k (by omega) z,g.kept.block k (by omega) (fun c=>by have:=a.f1 _ (aN c);omega),a.kept.block k f z]
 ·intro y l
  obtain⟨F,n,G⟩:=i y l;refine⟨(F.keptS g.kept (fun q e c=>(n q e).2.1 (aN c))).keptS s (fun q e c=>?_),fun q e=>⟨(n q e).1,fun c=>?_,(n q e).2.2⟩⟩
  ·have:=(n q e).1
   have:=a.lt;simp at c;omega
  ·rcases g.blk with p | ⟨r,p,t⟩
   ·exact(n q e).2.1 (by rw[<-p];exact c)
   ·have:=G q e
    rw[c]at p;cases p;omega
 ·intro y l q e
  have h1:=(i y l).2.2 q e;have h2:=g.kept.size;have H:=s.size;omega
theorem vD.addR(a:vD w wr v b x0 x1 PS h1 RS h2)(x:ik)(g:bt wr w' h2 h2')(o:aw w' h2' (fM (RS++[x])))(m:Nat)(z:m=RS.length+1) :
  vD w (w'.setCell ⟨v,4,none⟩ (.slice h2'.ao m h2'.cap)) v b x0 x1 PS h1 (RS++[x]) h2':=by
 have p:v∉h2.blk.toList:=fun c=>by have:=a.f2 _ (aN c);have:=a.lt;omega
 have t:=g.kept.get a.d p;have A:v<wr.heap.size:=ae a.d;have n:ab [v] w' (w'.setCell ⟨v,4,none⟩ (.slice h2'.ao m h2'.cap)):=(ab.refl _ _).setCell (Q1 (by simp)) _
 have h:∀k,h2'.blk=some k->w.heap.size<=k:=fun k f=>by
  rcases g.blk with e | ⟨q,e,c⟩
  ·exact a.f2 k (by rw[<-e];exact f)
  ·rw[f]at e;cases e;exact Q3 a.kept.size c
 refine⟨?_,a.lt,?_,?_,a.f1,h,?_,?_,?_,?_⟩
 ·rw[ah t 4]
  congr 2
  rw[z,Q0];rfl
 ·exact(g.beside a.o1 (fun k f c=>a.ap k f c)).Vk (fun k f e=>by have:=a.f1 k f;have:=a.lt;omega) _ _
 ·exact o.Vk (fun k f e=>by have:=h k f;have:=a.lt;omega) _ _
 ·intro k f c
  rcases g.blk with e | ⟨q,e,u⟩
  ·exact a.ap k f (by rw[<-e];exact c)
  ·have:=a.o1.lt f
   rw[c]at e;cases e;omega
 ·refine⟨g.kept.os.trans a.kept.os,g.kept.tape.trans a.kept.tape,g.kept.output.trans a.kept.output,?_,fun k f s=>?_⟩
  ·exact Q3 (Q3 a.kept.size g.kept.size) n.size
  ·have h1:=a.kept.size
   have h2:=g.kept.size;rw[n.block k (by omega) s,g.kept.block k (by omega) (fun c=>by have:=a.f2 _ (aN c);omega),a.kept.block k f s]
 ·intro y l
  obtain⟨B,i⟩:=a.q y l;have C:=a.ql y l;refine⟨(B.keptS g.kept (fun q e c=>(i q e).2.2 (aN c))).keptS n (fun q e c=>?_),fun q e=>⟨(i q e).1,(i q e).2.1,fun c=>?_⟩⟩
  ·have:=(i q e).1
   have:=a.lt;simp at c;omega
  ·rcases g.blk with j | ⟨r,j,u⟩
   ·exact(i q e).2.2 (by rw[<-j];exact c)
   ·have:=C q e
    rw[c]at j;cases j;omega
 ·intro y l q e
  have h1:=a.ql y l q e;have h2:=g.kept.size;have D:=n.size;omega
theorem Ps(RS:List ik)(k:Nat)(h:k<RS.length)(u:Int):(RS.flatMap jJ).set (k*6+1) (.int .i64 u)=(RS.set k { ff RS k with Vc:=u }).flatMap jJ:=by
 induction RS generalizing k with
 | nil=>simp at h
 | cons r RS b =>
  cases k with
  | zero=>rfl
  | succ k =>
   have e:(k+1)*6+1=6+(k*6+1):=by omega
   have a:ff (r :: RS) (k+1)=ff RS k:=rfl;rw[a,SB,RI,RI,<-b k (by simpa using h),e,SS _ _ (by rw[xf];omega),xf]
   congr 2
   omega
theorem vD.put(a:vD w wr v b x0 x1 PS h1 RS h2)(i:h2.ao=some ⟨n,0,none⟩)(k:Nat)(o:k<RS.length)(u:Int):vD w (wr.setCell ⟨n,k*6+1,none⟩ (.int .i64 u)) v b x0 x1 PS h1 (RS.set k { ff RS k with Vc:=u }) h2:=by
 have h:=tK i;have m:=a.f2 n h;have l:=a.o2.lt h;have p:=a.lt;have c:ab [n] wr (wr.setCell ⟨n,k*6+1,none⟩ (.int .i64 u)):=(ab.refl _ _).setCell (Q1 (by simp)) _;refine⟨?_,a.lt,?_,?_,a.f1,a.f2,a.ap,?_,?_,?_⟩
 ·rw[c.get a.d (by simp;omega),Rv]
 ·exact a.o1.Vk (fun q f e=>a.ap q f (by rw[e];exact h)) _ _
 ·have:=a.o2.putAt i (k*6+1) (.int .i64 u)
  have e:(⟨(fM RS).e,(fM RS).size,(fM RS).n,(fM RS).xs.set (k*6+1) (.int .i64 u)⟩:dN)=fM (RS.set k { ff RS k with Vc:=u }):=by
   show(⟨_,_,RS.length,(RS.flatMap jJ).set (k*6+1) (.int .i64 u)⟩:dN)=_
   rw[Ps RS k o u];unfold fM kU;rw[Rv]
  rw[e]at this;exact this
 ·exact⟨c.os.trans a.kept.os,c.tape.trans a.kept.tape,c.output.trans a.kept.output,Q3 a.kept.size c.size,fun q f r=>by
   have:=a.kept.size;rw[c.block q (by omega) (by simp;omega),a.kept.block q f r]⟩
 ·intro y g
  exact⟨(a.q y g).1.keptS c (fun q e f=>by simp at f;subst f;exact((a.q y g).2 q e).2.2 h),(a.q y g).2⟩
 ·intro y g q e
  exact QX (a.ql y g q e) c.size
end Go.Proofs.YtpddjjabfbfifaaGreat
