import Derived.Test.YtpddjjabfbfifaaGreatG09
namespace Go.Proofs.YtpddjjabfbfifaaGreat
open Go.RowKit Tryz
set_option maxRecDepth 100000
set_option maxHeartbeats 40000000
variable{i:World}{v k:Nat}{a:List ByteArray}{D:ByteArray}{o:List St}(x y b:Nat)(L:Fs)(w:List St)(S:Nat->Hd)(H:List ByteArray)(T:List Bool)(f:Nat)(d:ByteArray)(n:World)(l:Nat)
abbrev Pr:=ByteArray×ByteArray
def QA(p:Pr):List Value:=[.string p.1,.string p.2]
def Jj(l:List Pr):List Value:=l.flatMap QA
def jI(l:List Pr):dN:=⟨227,2,l.length,Jj l⟩
theorem E5(l:List Pr)(x:Pr):(⟨(jI l).e,(jI l).size,(jI l).n+1,(jI l).xs++[.string x.1,.string x.2]⟩:dN)=jI (l++[x]):=by
 simp[jI,Jj,QA]
theorem OX:(prog.info? 227).map (fun i=>(i.zero,i.size,i.bytes))=some (some (.agg #[.string ⟨#[]⟩,.string ⟨#[]⟩]),2,32):=by kernel_rfl
def gD(vs:List ByteArray)(i:Nat):ByteArray:=vs.getD i ⟨#[]⟩
def mG(vs:List ByteArray)(ms:List Bool)(i k:Nat):List Pr:=((List.range k).filter (fun j=>decide (i<j)&&eD vs.length ms i j)).map (fun j=>(gD vs i,gD vs j))
def ta(vs:List ByteArray)(ms:List Bool)(i:Nat):List Pr:=(List.range i).flatMap (fun i=>mG vs ms i vs.length)
def Ar(vs:List ByteArray)(ms:List Bool):List Pr:=ta vs ms vs.length
theorem EV:mG H T l (l+1)=[]:=by
 unfold mG;rw[List.map_eq_nil_iff,Tg];intro j a;have:=Q9.1 a;simp;omega
theorem Jg(a:f<l)(h:eD H.length T f l=true):mG H T f (l+1)=mG H T f l++[(gD H f,gD H l)]:=by
 unfold mG;rw[R4,RU,Rx];simp[a,h]
theorem LW(h:eD H.length T f l=false):mG H T f (l+1)=mG H T f l:=by
 unfold mG;rw[R4,RU,Rx];simp[h]
theorem yW:ta H T (l+1)=ta H T l++mG H T l H.length:=by
 unfold ta;rw[R4,Sg];simp
theorem yU:(mG H T f l).length<=l:=by
 unfold mG;rw[Rh];have:=Sb (fun j=>decide (f<j)&&eD H.length T f j) (List.range l);simpa using this
theorem CG:(ta H T l).length<=l*H.length:=by
 induction l with
 | zero=>simp[ta]
 | succ l a =>
  rw[yW,QZ,Ub];have:=yU H T l H.length;omega
def s9(vs:List ByteArray)(ms:List Bool)(i j:Nat):List Pr:=ta vs ms i++mG vs ms i j
theorem LV(b:f<=10000)(a:H.length<=10000)(c:l<=10000):(s9 H T f l).length<=100010000:=by
 unfold s9;rw[QZ];have g:=CG H T f;have d:=yU H T f l;have e:f*H.length<=10000*10000:=SJ b a;omega
theorem GA(h:H.length<=10000):(Ar H T).length<=100000000:=by
 have a:=CG H T H.length;have b:H.length*H.length<=10000*10000:=SJ h h;unfold Ar;omega
theorem Cz(K:Hd)(a:List ByteArray)(J:World)(h:dF J x y w S)(ok:iH w)(hO:aw J K (aB a))(C:a.length<=10000) :
  Calls prog 181 #[.pointer (some ⟨x,y,none⟩),.int .i64 b,.slice K.ao a.length K.cap] J fun e Z=>∃o:Hd,e=.returned (.slice o.ao (Ar a (fN w b a)).length o.cap)/\aw Z o (jI (Ar a (fN w b a)))/\(∀c,o.blk=some c->J.heap.size<=c)/\ab [] J Z:=by
 obtain⟨i0,hi,af,ag,a1⟩:=Rd OX;have Q:=hI (DF x y b w S K a J h ok hO C);have p:(fN w b a).length=a.length*a.length:=kn w b a _;generalize fN w b a=d at *;obtain⟨AO,N⟩:∃AO,Hid (K.ao=AO):=⟨_,rfl⟩
 rw[N.out]at Q ⊢;go_enter func181,ntmps181;go_wp2_with fail;refine QT Q.out ?_;rintro e V ⟨tb,hv,hm,rfl,ax,a7,be,k1⟩;go_wp2
 go_loopg [8,9] a.length (fun gk sv i wr=>∃(k:Nat) (o:Hd),k<=a.length/\gk=a.length-k/\i=.int .i64 k/\sv=.slice o.ao (ta a d k).length o.cap/\aw wr o (jI (ta a d k))/\(∀c,o.blk=some c->V.heap.size<=c)/\ab [] V wr)
 case atStart=>exact⟨0,⟨none,0⟩,by omega,by omega,rfl,rfl,QY _ _ _ _,by intro c E;simp[Hd.blk]at E,ab.refl _ _⟩
 case round =>
  obtain⟨k,o,hk,hg,rfl,rfl,G,hN,hK⟩:=hrel
  by_cases v:k<a.length
  ·have aS:=hI (yW a d k)
   have HZ:=hI (EV a d k);have HB:Hid (s9 a d k (k+1)=ta a d k):=by show ta a d k++_=_;rw[HZ.out,Rk]
   have HE:Hid (s9 a d k a.length=ta a d (k+1)):=aS.out.symm;go_wp2_with fail
   go_loopg [8,10] (a.length-(k+1)) (fun ar a0 i2 P=>∃(j:Nat) (f:Hd),k<j/\j<=a.length/\ar=a.length-j/\i2=.int .i64 j/\a0=.slice f.ao (s9 a d k j).length f.cap/\aw P f (jI (s9 a d k j))/\(∀c,f.blk=some c->V.heap.size<=c)/\ab [] V P)
   case atStart=>exact⟨k+1,o,by omega,by omega,rfl,by go_num,by rw[HB.out],by rw[HB.out];exact G,hN,hK⟩
   case round =>
    obtain⟨j,f,ap,hj,a4,rfl,rfl,r,q,l⟩:=hrel;clear G hN hK;have bc:=LV a d k j (by omega) C (by omega)
    by_cases B:j<a.length
    ·have T:=ax.Va l
     have A:aw wr K (aB a):=hO.Vf (fun c E=>(k1.trans l).block c (hO.lt E) (by simp))
     rcases A.ways with ⟨_,h0,_⟩ | ⟨t,a3,ev,ac,bg,-⟩
     ·have:a.length=0:=h0
      omega
     have al:=A.cell ev k (.string a[k]) (by simp[aB,cN,v]);have ad:=A.cell ev j (.string a[j]) (by simp[aB,cN,B]);have a2:=hO.lt (k:=t) (by unfold Hd.blk;rw[ev];rfl);have ai:AO=some ⟨t,0,none⟩:=by rw[<-N.out];exact ev
     subst ai;have O:=ae ac;have W:gD a k=a[k]:=qk a k v;have Y:gD a j=a[j]:=qk a j B;have HY:Hid (eD a.length d k j=true->s9 a d k (j+1)=s9 a d k j++[(gD a k,gD a j)]):=fun hp=>by unfold s9;rw[Jg a d k j ap hp,Sx]
     have I:Hid (eD a.length d k j=false->s9 a d k (j+1)=s9 a d k j):=fun hp=>by unfold s9;rw[LW a d k j hp]
     rw[W,Y]at HY;clear W Y ac A;have a6:(k:Int)<a.length:=by omega
     have bd:(j:Int)<a.length:=by omega
     have a5:(0:Int)<=k:=by omega
     have bf:(0:Int)<=j:=by omega
     generalize a[k]=c at *;generalize a[j]=m at *
     cases D:eD a.length d k j
     ·have U:=hI (I.out D)
      clear HY I;go_wp2_with (go_at_call 215;refine(qe tb a d hv hm k j _ (by exact T) p C v B).mono ?_;rintro e w9 ⟨rfl,H⟩;rw[H,D])
      go_roundg (a.length-(j+1))
      case measure=>omega
      case rel=>exact⟨j+1,f,by omega,by omega,rfl,by go_num,by rw[U.out],by rw[U.out];exact r,q,l⟩
     ·have U:=hI (HY.out D)
      clear HY I;generalize s9 a d k j=L at *
      have s3:Hid (∀u∈([.string c,.string m]:List Value),u.oneCell'=true):=by
       intro u hu;simp at hu;rcases hu with rfl | rfl <;> rfl
      have s4:Hid ((jI L).n+1<=maxLen):=by show _<=_;simp only[jI];unfold maxLen;omega
      have s5:Hid (((jI L).n+1)*32<=140737488355328):=by show _<=_;simp only[jI];omega
      have X:Hid (ab [] wr (wr.alloc (.cells #[.string c,.string m] 227)).drew):=((ab.refl [] wr).alloc _).drew;have hD:Hid (aw (wr.alloc (.cells #[.string c,.string m] 227)).drew f (jI L)):=r.Vf (fun z hz=>X.out.block z (r.lt hz) (by simp))
      have s2:Hid (∀j u,([.string c,.string m]:List Value)[j]?=some u->(wr.alloc (.cells #[.string c,.string m] 227)).drew.cell? ((⟨wr.heap.size,0,none⟩:Addr).add j)=some u):=by
       intro j u hj;rw[bL];have hk:(wr.alloc (.cells #[.string c,.string m] 227)).drew.heap[wr.heap.size]?=some (.cells #[.string c,.string m] 227 (0,0)):=QR _ _;rw[aa hk];simpa using hj
      have HS:Hid (∀F,(wr.alloc (.cells #[.string c,.string m] 227)).drew.grownBy F f.blk->F.cell? ⟨t,k,none⟩=some (.string c)/\F.cell? ⟨t,j,none⟩=some (.string m)):=by
       intro F aT;have e:F.heap[t]?=wr.heap[t]?:=(aT.block t (QW O X.out.size) (fun e=>by have:=q t e.symm;have:=k1.size;omega)).trans (X.out.block t O (by simp));exact⟨by rw[Q5 e];exact al,by rw[Q5 e];exact ad⟩
      go_upto_region 10 with (go_at_call 215;refine(qe tb a d hv hm k j _ (by exact T) p C v B).mono ?_;rintro e w9 ⟨rfl,H⟩;rw[H,D])
      go_region_held3 (fun Z=>Z.cell? ⟨t,k,none⟩=some (.string c)/\Z.cell? ⟨t,j,none⟩=some (.string m)) (go_keep) ((refine cd (by rfl) (.tmp 33) (.tmp 43) 221 (by rfl) i0 (.agg #[.string ⟨#[]⟩,.string ⟨#[]⟩]) 32 f (jI L) underlying221 hi af ag a1 rfl Up (by simp[Act.eval] <;> rfl) hD.out ⟨wr.heap.size,0,none⟩ 1 1 [.string c,.string m] (by simp[Act.eval]) rfl s2.out s3.out Rb s4.out s5.out ?_;intro g5 M F R s g;obtain⟨q1,q2⟩:=HS.out F s))
      rw[E5 L (c,m),<-U.out]at R;have an:=(l.trans X.out).grown s q
      have ba:V.heap.size<=g5:=by
       rcases g with e | e
       ·exact q g5 e
       ·have:=(l.trans X.out).size;simp at e this;omega
      have az:Hid ((jI L).n+1=(s9 a d k (j+1)).length):=by show _=_;rw[U.out];simp[jI]
      rw[az.out];clear s g q1 q2;go_wp2
      go_roundg (a.length-(j+1))
      case measure=>omega
      case rel=>exact⟨j+1,⟨some ⟨g5,0,none⟩,M⟩,by omega,by omega,rfl,by go_num,rfl,R,by intro c E;simp[Hd.blk]at E;omega,an⟩
    ·have e:j=a.length:=by omega
     subst e;rw[HE.out]at r ⊢;go_wp2
     go_roundg (a.length-(k+1))
     case measure=>omega
     case rel=>exact⟨k+1,f,by omega,rfl,by go_num,rfl,r,q,l⟩
  ·have e:k=a.length:=by omega
   subst e;go_wp2;go_ret;exact⟨o,rfl,G,fun c E=>by have:=hN c E;have:=k1.size;omega,k1.trans hK⟩
def gI(l:List St)(a:Nat):List Pr:=Ar (eW l (aK l a)) (fN l a (eW l (aK l a)))
def yL(l:List St)(n:Nat):ByteArray:=match l[n]? with | some s=>sQ s | none=>⟨#[]⟩
def fh(p:Pr):ByteArray:=⟨#[36,100,32]⟩++p.1++⟨#[32]⟩++p.2
def cW(l:List St)(a:Nat):List ByteArray:=(aK l a).map (yL l)++(gI l a).map fh++[yL l a]
theorem vp(h:l∈aK w f):l<w.length:=by
 unfold aK dG at h;exact Q9.1 (RG.1 h).1
theorem wn:(aK w l).length<=w.length:=by
 unfold aK dG;have:=Sb (l5 w (f8 w l) l) (List.range w.length);simpa using this
theorem tV(a:List Nat):(eW w a).length<=a.length:=Tn _ _
theorem Ph(h:dF n x y w S)(O:b<w.length)(C:iH w) :
  Calls prog 135 #[.pointer (some ⟨x,y,none⟩),.int .i64 b] n fun e H=>∃c d:Hd,e=.returned (.agg #[.slice c.ao (aK w b).length c.cap,.slice d.ao (gI w b).length d.cap])/\aw H c (bB (aK w b))/\aw H d (jI (gI w b))/\(∀k,c.blk=some k∨d.blk=some k->n.heap.size<=k)/\ab [] n H:=by
 have L:=C.len;have T:=wn w b;have ad:=tV w (aK w b);have J:Hid (∀a∈aK w b,a<w.length):=fun a g=>vp w b a g
 have Z:Hid (gI w b=Ar (eW w (aK w b)) (fN w b (eW w (aK w b)))):=rfl;obtain⟨W,B⟩:∃W,W=n.alloc (.cells #[.slice none 0 0,.slice none 0 0] 223):=⟨_,rfl⟩
 have A:ab [] n W:=by rw[B];exact(ab.refl [] _).alloc _
 have K:W.heap[n.heap.size]?=some (.cells #[.slice none 0 0,.slice none 0 0] 223 (0,0)):=by rw[B];exact QR _ _
 have M:=hI B.symm;clear B;have p:=h.Va A;have E:=hI (mz x y b w S W p O C);go_enter func135,ntmps135;go_wp2_with fail;rw[M.out];refine QT E.out ?_;rintro e U ⟨c,rfl,f,m,j⟩;go_wp2_with fail;refine(vg x y w S (aK w b) c U (p.Va j) C f (by omega) J.out).mono ?_;rintro e w2 ⟨X,rfl,z,ac,s⟩;go_wp2_with fail;refine(Cz x y b w S X (eW w (aK w b)) w2 ((p.Va j).Va s) C z (by omega)).mono ?_;rintro e r ⟨d,rfl,l,q,G⟩;rw[<-Z.out]at l ⊢;have i:aw r c (bB (aK w b)):=f.Vf (fun a g=>(s.trans G).block a (f.lt g) (by simp));have o:=((j.trans s).trans G).get K (by simp);have F:ab [] n r:=((A.trans j).trans s).trans G;have N:=(A.trans j).size;have Y:=((A.trans j).trans s).size;have af:=j.size;have Q:=s.size;have R:=ae K;have P:=A.size;have V:r.cell? ⟨n.heap.size,0,none⟩=some (.slice none 0 0):=by rw[aa o];rfl
 have z1:r.cell? ⟨n.heap.size,1,none⟩=some (.slice none 0 0):=by rw[aa o];rfl
 have yf:=am o;have D:Hid (∀u v,aw ((r.setCell ⟨n.heap.size,0,none⟩ u).setCell ⟨n.heap.size,1,none⟩ v) c (bB (aK w b))):=fun u v=>i.Vf (fun a g=>(Q3 _ _ _ _ (by have:=m a g;show a≠n.heap.size;omega)).trans (Q3 _ _ _ _ (by have:=m a g;show a≠n.heap.size;omega)))
 have I:Hid (∀u v,aw ((r.setCell ⟨n.heap.size,0,none⟩ u).setCell ⟨n.heap.size,1,none⟩ v) d (jI (gI w b))):=fun u v=>l.Vf (fun a g=>(Q3 _ _ _ _ (by have:=q a g;show a≠n.heap.size;omega)).trans (Q3 _ _ _ _ (by have:=q a g;show a≠n.heap.size;omega)))
 clear f z l i;go_wp2
 exact QX (v:=.agg #[.slice c.ao (aK w b).length c.cap,.slice d.ao (gI w b).length d.cap]) (by simp[results,results135,go_sem,V,z1]) rfl
  ⟨c,d,rfl,D.out _ _,I.out _ _,fun k t=>t.elim (fun t=>by have:=m k t;omega) (fun t=>by have:=q k t;omega),
   (F.setCell (QU (QQ _)) _).setCell (QU (QQ _)) _⟩
def pj(L:List ByteArray)(k:Nat):List ByteArray:=L.take k++List.replicate (L.length-k) ⟨#[]⟩
theorem Jd(h:l<=H.length):(pj H l).length=H.length:=by simp[pj];omega
theorem EP(h:l<H.length):pj H (l+1)=(pj H l).set l H[l]:=by
 unfold pj;rw[jo H l h]
 apply Sp
 intro i;have b:(H.take l).length=l:=by simp;omega
 rcases Nat.lt_trichotomy i l with a | a | a
 ·rw[Ur (by omega),Q6 (by simp;omega),Q6 (by omega),Q6 (by omega)]
 ·subst a
  rw[Uf (by simp;omega),Q6 (by simp;omega),Q4 (by omega),b];simp
 ·rw[Ur (by omega),Q4 (by simp;omega),Q4 (by omega)]
  simp only[QZ,b,List.length_singleton,Se]
  by_cases c:i<H.length
  ·rw[QV (by omega),QV (by omega)]
  ·rw[QS (by omega),QS (by omega)]
theorem Jc:pj H H.length=H:=by simp[pj]
theorem xj:cN (H.set f d)=(cN H).set f (.string d):=by simp[cN,Tm]
def lH(w:World)(g:Nat)(L:List ByteArray)(k:Nat):Prop:=w.heap[g]?=some (.cells (cN (pj L k)).toArray 9 (0,0))
theorem lH.next(h:lH i v a k)(c:a[k]?=some D):lH (i.setCell ⟨v,k,none⟩ (.string D)) v a (k+1):=by
 obtain⟨b,rfl⟩:=Q7.1 c;unfold lH at h ⊢;rw[ah h,EP a k b,xj,Rt]
theorem lH.cell{i:Nat}(h:lH i v a k)(b:k<=a.length)(c:i<a.length):∃x,i.cell? ⟨v,i,none⟩=some (.string x):=by
 refine⟨(pj a k)[i]'(by rw[Jd a k b];exact c),?_⟩;rw[aa h];simp[cN]
theorem lH.kept{b:World}{S:List Nat}(h:lH i v a k)(q:ab S i b)(c:v∉S):lH b v a k:=q.get h c
def AZ(l:List St):Prop:=∀s∈l,s.kind≠1->M4 s
theorem t7:(cW w l).length=(aK w l).length+(gI w l).length+1:=by simp[cW];omega
theorem IF(h:l<(aK w f).length)(a:(aK w f)[l]<w.length):(cW w f)[l]?=some (sQ w[(aK w f)[l]]):=by
 unfold cW;rw[Q6 (by simp;omega),Q6 (by simpa using h),Rp,QO h];simp[yL,QO a]
theorem Es(h:l<(gI w f).length):(cW w f)[(aK w f).length+l]?=some (fh (gI w f)[l]):=by
 unfold cW;rw[Q6 (by simp;omega),Q4 (by simp),Rp];simp[h]
theorem Eq(a:l<w.length):(cW w l)[(aK w l).length+(gI w l).length]?=some (sQ w[l]):=by
 unfold cW;rw[Q4 (by simp)];simp[yL,QO a]
theorem Cf(h:l∈aK w f)(c:l<w.length):w[l].kind=2∨w[l].kind=3:=by
 unfold aK dG at h;obtain⟨-,a⟩:=RG.1 h;unfold l5 at a;rw[QO c]at a;simp only[Rf]at a;have:=a.2;unfold pM at this
 cases b:(w[l].kind==2)
 ·rw[b]at this;right;simpa using this
 ·left;simpa using b
theorem Gk(h:∀x∈H,x.size<=l):(gD H f).size<=l:=by
 unfold gD;rw[QP]
 cases e:H[f]? with
 | none=>exact Rn _
 | some x=>exact h x (R2 e)
theorem EO(f:AZ w)(p:Pr)(h:p∈gI w l):p.1.size<=100000/\p.2.size<=100000:=by
 have c:∀x∈eW w (aK w l),x.size<=100000:=by
  intro x d;unfold eW at d;obtain⟨n,e,b⟩:=UD.1 d;have a:=vp w l n e;unfold mP at b;rw[QO a]at b;simp only at b
  split at b
  ·next m =>
   cases b
   have o:=Cf w l n e a;have g:=f w[n] (Ra a) (by omega);unfold aL
   split
   ·next k =>
    refine g.syms _ ?_;rw[QP,QO (show 1<w[n].U5.length by omega)];exact Ra _
   ·exact Rn _
  ·cases b
 unfold gI Ar ta at h;obtain⟨i,-,h⟩:=TR.1 h;unfold mG at h;obtain⟨j,-,rfl⟩:=Sh.1 h;exact⟨Gk _ _ _ c,Gk _ _ _ c⟩
theorem NW(L:List Pr)(k:Nat)(h:k<L.length):(Jj L)[k*2]?=some (.string L[k].1)/\(Jj L)[k*2+1]?=some (.string L[k].2):=by
 induction L generalizing k with
 | nil=>simp at h
 | cons p L a =>
  cases k with
  | zero=>exact⟨rfl,rfl⟩
  | succ k =>
   have:=a k (by simpa using h);have e:Jj (p :: L)=.string p.1 :: .string p.2 :: Jj L:=rfl;rw[e];refine⟨?_,?_⟩
   ·rw[show(k+1)*2=k*2+1+1 by omega];simpa using this.1
   ·rw[show(k+1)*2+1=k*2+1+1+1 by omega];simpa using this.2
theorem Ep(h:dF n x y w S)(ha:b<w.length)(ok:iH w)(hz:AZ w)(bl:w[b].kind≠1) :
  Calls prog 91 #[.pointer (some ⟨x,y,none⟩),.int .i64 b] n fun e w'=>∃g,e=.returned (.slice (some ⟨g,0,none⟩) (cW w b).length (cW w b).length)/\lH w' g (cW w b) (cW w b).length/\n.heap.size<=g/\ab [] n w':=by
 obtain⟨i0,hi,a1,a2,bw⟩:=Rd js;have b1:=ok.len;have co:=wn w b;have bv:=tV w (aK w b);have cu:(gI w b).length<=100000000:=GA _ _ (by omega);have l:=hI (t7 w b);obtain⟨N,C⟩:∃N,Hid ((cW w b).length=N):=⟨_,rfl⟩
 rw[C.out]at l ⊢;have bs:Hid (∀k (h:k<(aK w b).length) (hq:(aK w b)[k]<w.length),(cW w b)[k]?=some (sQ w[(aK w b)[k]])):=fun k h hq=>IF w b k h hq
 have a6:Hid (∀j (h:j<(gI w b).length),(cW w b)[(aK w b).length+j]?=some (fh (gI w b)[j])):=fun j h=>Es w b j h
 have a4:Hid ((cW w b)[(aK w b).length+(gI w b).length]?=some (sQ w[b])):=Eq w b ha;have ba:=hI (EO w b hz);have bj:Hid (∀ac∈aK w b,∃h:ac<w.length,M4 w[ac]):=fun ac hn=>⟨vp w b ac hn,hz _ (Ra _) (by have:=Cf w b ac hn (vp w b ac hn);omega)⟩
 have be:=hz _ (Ra ha) bl;have aT:=hI (Ph x y b w S n h ha ok);have m1:=fun n=>dB (P:=prog) n 61 9 i0 _ underlying61 hi a1 N 1 a2 (by rw[bw];have:=l.out;omega) (by have:=l.out;omega)
 obtain⟨mc,Q⟩:∃mc,mc=madeCells (Value.string ⟨#[]⟩).cells (N*1):=⟨_,rfl⟩
 rw[<-Q]at m1
 have bp:Hid (mc=(cN (pj (cW w b) 0)).toArray):=by
  show _=_
  rw[Q];have e:(Value.string ⟨#[]⟩).cells=#[.string ⟨#[]⟩]:=rfl;rw[e,Cm];simp[pj,cN,C.out]
 clear Q hz;generalize hL:cW w b=L at *;generalize hHy:aK w b=a at *;generalize hPr:gI w b=d at *;clear hL hHy hPr bv;have cp:(a.length:Int)+(d.length:Int)+1=(N:Int):=by have:=l.out;omega
 have cs:N<=200000000:=by have:=l.out;omega
 have cj:a.length+d.length<N:=by have:=l.out;omega
 go_enter func91,ntmps91;go_wp2_with fail;refine QT aT.out ?_;rintro e s ⟨T,A,rfl,ai,ap,cA,k1⟩;obtain⟨F,az⟩:∃F,Hid (T.ao=F):=⟨_,rfl⟩
 obtain⟨E,ad⟩:∃E,Hid (A.ao=E):=⟨_,rfl⟩
 rw[az.out,ad.out];obtain⟨X,hX⟩:∃X,X=s.alloc (.cells #[.slice F a.length T.cap,.slice E d.length A.cap] 223):=⟨_,rfl⟩
 have kX:ab [] s X:=by rw[hX];exact(ab.refl [] _).alloc _
 have BX:X.heap[s.heap.size]?=some (.cells #[.slice F a.length T.cap,.slice E d.length A.cap] 223 (0,0)):=by rw[hX];exact QR _ _
 have HX:=hI hX.symm;clear hX;obtain⟨Y,hY⟩:∃Y,Y=X.alloc (.cells mc 9):=⟨_,rfl⟩
 have kY:ab [] X Y:=by rw[hY];exact(ab.refl [] _).alloc _
 have BY:lH Y X.heap.size L 0:=by unfold lH;rw[hY,<-bp.out];exact QR _ _
 have HY:=hI hY.symm;clear hY;have u0:X.cell? ⟨s.heap.size,0,none⟩=some (.slice F a.length T.cap):=by rw[aa BX];rfl
 have u1:X.cell? ⟨s.heap.size,1,none⟩=some (.slice E d.length A.cap):=by rw[aa BX];rfl
 have b3:=ae BX;have ax:=h.Va (k1.trans kX);have ca:=(k1.trans kX).size;have D:aw X T (bB a):=ai.Vf (fun K I=>kX.block K (ai.lt I) (by simp));have u:aw X A (jI d):=ap.Vf (fun K I=>kX.block K (ap.lt I) (by simp))
 go_upto_region 3 with fail
 rw[HX.out]
 go_upto_region 4 with fail
 rw[HY.out];clear u0 u1 m1;generalize hG:X.heap.size=G at *;go_wp2
 go_loopg [8] a.length (fun gk i wr=>∃(k:Nat),k<=a.length/\gk=a.length-k/\i=.int .i64 k/\lH wr G L k/\ab [] X wr)
 case atStart=>exact⟨0,by omega,by omega,rfl,BY,kY⟩
 case round =>
  obtain⟨k,hk,hg,rfl,O,hK⟩:=hrel;have o:=ax.Va hK;have B:=hK.get BX (by simp);have bf:=ae B;have u0:wr.cell? ⟨s.heap.size,0,none⟩=some (.slice F a.length T.cap):=by rw[aa B];rfl
  have u1:wr.cell? ⟨s.heap.size,1,none⟩=some (.slice E d.length A.cap):=by rw[aa B];rfl
  by_cases J:k<a.length
  ·have r:aw wr T (bB a):=D.Vf (fun K I=>hK.block K (D.lt I) (by simp))
   rcases r.ways with ⟨_,h0,_⟩ | ⟨gh,bT,eh,bo,a0,-⟩
   ·have:a.length=0:=h0
    omega
   have ch:=r.cell eh k (.int .i64 a[k]) (jP a k J);have bx:F=some ⟨gh,0,none⟩:=by rw[<-az.out];exact eh
   subst bx;obtain⟨z,br⟩:=bj.out a[k] (Ra J);have U:=hI (bs.out k J z);have b6:(k:Int)<a.length:=by omega
   clear eh bo a0 r;generalize a[k]=q at *;have Z:=ok.syms q z;have W:=(o.sts.syms q w[q] (QO z)).view;go_wp2_with fail;refine(a9 x y q w S wr o z).mono ?_;rintro e w3 ⟨rfl,k3⟩;go_wp2_with fail;refine(Cj w[q] _ _ w3 (W.Va k3) Z br).mono ?_;rintro e w4 ⟨rfl,k4⟩;have v:=k3.trans k4;have c:=O.kept v (by simp);obtain⟨x0,cx⟩:=c.cell (i:=k) (by have:=C.out;omega) (by have:=C.out;omega);have af:=am c;have ar:=ae c;have p:=hI (c.next U.out);have V:=hK.trans v;have cz:(k:Int)<(N:Int):=by omega
   generalize sQ w[q]=tx at *;go_wp2
   go_roundg (a.length-(k+1))
   case measure=>omega
   case rel=>exact⟨k+1,by omega,rfl,by go_num,p.out,V.setCell (QU (UR hG)) _⟩
  ·have e:k=a.length:=by omega
   subst e;clear u0;go_wp2
   go_loopg [9] d.length (fun bg i2 ag=>∃(j:Nat),j<=d.length/\bg=d.length-j/\i2=.int .i64 j/\lH ag G L (a.length+j)/\ab [] X ag)
   case atStart=>exact⟨0,by omega,by omega,rfl,O,hK⟩
   case round =>
    obtain⟨j,hj,b4,rfl,f,t⟩:=hrel;clear O hK o B bf u1;have an:=t.get BX (by simp);have cc:=ae an;have u1:wr.cell? ⟨s.heap.size,1,none⟩=some (.slice E d.length A.cap):=by rw[aa an];rfl
    by_cases M:j<d.length
    ·have m:aw wr A (jI d):=u.Vf (fun K I=>t.block K (u.lt I) (by simp))
     rcases m.ways with ⟨_,h0,_⟩ | ⟨R,b0,ep,al,a5,-⟩
     ·have:d.length=0:=h0
      omega
     obtain⟨v1,v2⟩:=NW d j M;have a3:=m.cell ep (j*2) _ v1;have bc:=m.cell ep (j*2+1) _ v2;have b5:=ae al;have bk:E=some ⟨R,0,none⟩:=by rw[<-ad.out];exact ep
     subst bk;have U:=hI (a6.out j M);obtain⟨z1,z2⟩:=ba.out _ (Ra M);have cf:(j:Int)<d.length:=by omega
     have cl:(0:Int)<=j:=by omega
     have aS:(0:Int)<=(a.length:Int)+(j:Int):=by omega
     have a7:(a.length:Int)+(j:Int)<(N:Int):=by omega
     have ck:IntKind.i64.wrap ((a.length:Int)+(j:Int))=(a.length:Int)+(j:Int):=by rw[R8];omega
     have bd:((a.length:Int)+(j:Int)).toNat=a.length+j:=by omega
     have bz:=u.lt (k:=R) (by unfold Hd.blk;rw[ep];rfl);have cq:G≠s.heap.size:=by omega
     have cb:s.heap.size≠G:=by omega
     have ct:G≠R:=by omega
     have b2:R≠G:=by omega
     clear ep al a5 m v1 v2;generalize d[j]=pp at *;obtain⟨H,p2⟩:=pp;simp only at a3 bc z1 z2;have HT:Hid (⟨#[36,100,32]⟩++H++⟨#[32]⟩++p2=fh (H,p2)):=rfl;have n1:¬9223372036854775807<3+H.size:=by omega
     have n2:¬9223372036854775807<3+H.size+1:=by omega
     have n3:¬9223372036854775807<3+H.size+1+p2.size:=by omega
     obtain⟨x0,cx⟩:=f.cell (i:=a.length+j) (by have:=C.out;omega) (by have:=C.out;omega);have af:=am f;have ar:=ae f;have p:Hid (lH (wr.setCell ⟨G,a.length+j,none⟩ (.string (fh (H,p2)))).drew G L (a.length+j+1)):=(f.next U.out).kept (ab.refl [] _).drew (by simp)
     go_upto_region 11 with fail
     go_region_held3 (fun w'=>w'.cell? ⟨s.heap.size,1,none⟩=some (.slice (some ⟨R,0,none⟩) d.length A.cap)/\w'.cell? ⟨R,j*2,none⟩=some (.string H)/\w'.cell? ⟨R,j*2+1,none⟩=some (.string p2)) (go_keep) (fail)
     rw[HT.out];go_wp2
     go_roundg (d.length-(j+1))
     case measure=>omega
     case rel=>exact⟨j+1,by omega,rfl,by go_num,p.out,(t.setCell (QU (UR hG)) _).drew⟩
    ·have e:j=d.length:=by omega
     subst e;have o:=ax.Va t;have W:=(o.sts.syms b w[b] (QO ha)).view;have Z:=ok.syms b ha;have bd:((a.length:Int)+(d.length:Int)).toNat=a.length+d.length:=by omega
     have cy:(N:Int)-1=(a.length:Int)+(d.length:Int):=by omega
     go_wp2_with fail;refine(a9 x y b w S wr o ha).mono ?_;rintro e w3 ⟨rfl,k3⟩;go_wp2_with fail;refine(Cj w[b] _ _ w3 (W.Va k3) Z be).mono ?_;rintro e w4 ⟨rfl,k4⟩;have v:=k3.trans k4;have c:=f.kept v (by simp);obtain⟨x0,cx⟩:=c.cell (i:=a.length+d.length) (by have:=C.out;omega) (by have:=C.out;omega);have af:=am c;have ar:=ae c;have p:=hI (c.next a4.out);have V:=t.trans v;have aS:(0:Int)<=(a.length:Int)+(d.length:Int):=by omega
     have a7:(a.length:Int)+(d.length:Int)<(N:Int):=by omega
     have HE:Hid (a.length+d.length+1=N):=l.out.symm;rw[HE.out]at p;generalize sQ w[b]=tx at *;go_wp2;go_ret;exact⟨G,rfl,p.out,by omega,(k1.trans (kX.trans V)).setCell (QU (by show n.heap.size<=G;omega)) _⟩
theorem nH.recd{a:Fs}{H:Nat->Hd}(h:nH i v a o H k):dF i v 10 o H:=by
 obtain⟨d,e,c,b⟩:=h.ver;exact⟨⟨_,_,b.1,rfl⟩,h.sts⟩
theorem Jx(l:List St)(H:Nat->Hd)(w:World)(h:dF w b f l H)(i:l.length<=1073741824) :
  Calls prog 90 #[.pointer (some ⟨b,f,none⟩),.string d] w fun e g=>e=.returned (.int .i64 (nz (gC l d)))/\ab [] w g:=by
 have a:=hI (sF b f d l H w h i);go_enter func90,ntmps90;go_wp2_with fail;refine QT a.out ?_;rintro e j ⟨rfl,c⟩;go_wp2;go_ret;exact⟨rfl,c⟩
theorem E4(h:dF n x y w S)(l:b<w.length)(i:iH w)(m:AZ w)(c:w[b].kind≠1) :
  Calls prog 60 #[.pointer (some ⟨x,y,none⟩),.int .i64 b] n fun e d=>∃g,e=.returned (.slice (some ⟨g,0,none⟩) (cW w b).length (cW w b).length)/\lH d g (cW w b) (cW w b).length/\n.heap.size<=g/\ab [] n d:=by
 have a:=hI (Ep x y b w S n h l i m c);go_enter func60,ntmps60;go_wp2_with fail;refine QT a.out ?_;rintro e o ⟨g,rfl,k,f,j⟩;go_wp2;go_ret;exact⟨g,rfl,k,f,j⟩
theorem J4(h:nH n b L w S f)(m:w.length<=1073741824) :
  Calls prog 59 #[.pointer (some ⟨b,0,none⟩),.string d] n fun e r=>e=.returned (match gC w d with | some g=>.tuple #[.int .i64 g,.int .i64 0] | none=>.tuple #[.int .i64 0,.int .i64 8])/\ab [] n r:=by
 have a:=hI (Jx b 10 d w S n h.recd m);obtain⟨x,v,u,i⟩:=h.ver;obtain⟨t,k,p,l⟩:=iI.cells i;have s:=bi.lt i
 cases j:gC w d with
 | none =>
  rw[j]at a;simp only[nz]at a;go_enter func59,ntmps59;go_wp2_with fail;refine QT a.out ?_;rintro e o ⟨rfl,c⟩;go_wp2;go_ret2;exact⟨rfl,c⟩
 | some g =>
  rw[j]at a;simp only[nz]at a;have q:¬(g:Int)<0:=by omega
  go_enter func59,ntmps59;go_wp2_with fail;refine QT a.out ?_;rintro e o ⟨rfl,c⟩;go_wp2;go_ret2;exact⟨rfl,c⟩
def xZ(l:List St)(lab:ByteArray)(w:World)(e:Ending)(w':World):Prop :=
 ab [] w w'/\match gC l lab with
  | some n=>∃g,e=.returned (.tuple #[.slice (some ⟨g,0,none⟩) (cW l n).length (cW l n).length,.int .i64 0])/\lH w' g (cW l n) (cW l n).length/\w.heap.size<=g
  | none=>e=.returned (.tuple #[.slice none 0 0,.int .i64 8])
theorem Le(h:gC o D=some v):∃h:v<o.length,qO o[v].kind=true/\o[v].label.toList=D.toList:=by
 unfold gC at h;have b:=Q9.1 (Ry h);have a:=Tl h;rw[yO o D v b]at a;simp only[Rf]at a;exact⟨b,a.2,by simpa using a.1⟩
theorem FC(h:nH n b L w S f)(p:iH w)(t:AZ w) :
  Calls prog 39 #[.pointer (some ⟨b,0,none⟩),.string d] n fun e v=>xZ w d n e v:=by
 have m:=p.len;have c:=J4 b L w S f d n h (by omega);have y:=bi.lt (Ul (Ul (Ul h.ver)));unfold xZ
 cases k:gC w d with
 | none =>
  rw[k]at c;have a:=hI c;clear c;go_enter func39,ntmps39;go_wp2_with fail;refine QT a.out ?_;rintro e o ⟨rfl,g⟩;go_wp2;go_ret2;exact⟨g,rfl⟩
 | some q =>
  rw[k]at c;obtain⟨r,l,-⟩:=Le k;have j:w[q].kind≠1:=by intro e;rw[e]at l;revert l;decide
  have a:=hI c;clear c;go_enter func39,ntmps39;go_wp2_with fail;refine QT a.out ?_;rintro e o ⟨rfl,g⟩;have i:=(h.Va g).recd;have x:=i.lt;go_wp2_with fail;refine(E4 b 10 q w S o i r p t j).mono ?_;rintro e C ⟨z,rfl,s,A,u⟩;have B:=g.size;go_wp2;go_ret2;exact⟨g.trans u,z,rfl,s,by omega⟩
end Go.Proofs.YtpddjjabfbfifaaGreat
