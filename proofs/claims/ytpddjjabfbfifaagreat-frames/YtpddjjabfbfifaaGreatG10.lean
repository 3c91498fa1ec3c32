import Derived.Test.YtpddjjabfbfifaaGreatG09
namespace Go.Proofs.YtpddjjabfbfifaaGreat
open Go.RowKit Tryz
set_option maxRecDepth 100000
set_option maxHeartbeats 40000000
variable{i:World}{v k:Nat}{a:List ByteArray}{D:ByteArray}{o:List St}(x y b:Nat)(L:Fs)(w:List St)(S:Nat->Hd)(H:List ByteArray)(T:List Bool)(f:Nat)(d:ByteArray)(n:World)(l:Nat)
abbrev Pr:=ByteArray×ByteArray
def QB(p:Pr):List Value:=[.string p.1,.string p.2]
def Jl(l:List Pr):List Value:=l.flatMap QB
def jI(l:List Pr):dN:=⟨227,2,l.length,Jl l⟩
theorem E7(l:List Pr)(x:Pr):(⟨(jI l).e,(jI l).size,(jI l).n+1,(jI l).xs++[.string x.1,.string x.2]⟩:dN)=jI (l++[x]):=by
 simp[jI,Jl,QB]
theorem OY:(prog.info? 227).map (fun i=>(i.zero,i.size,i.bytes))=some (some (.agg #[.string ⟨#[]⟩,.string ⟨#[]⟩]),2,32):=by kernel_rfl
def gD(vs:List ByteArray)(i:Nat):ByteArray:=vs.getD i ⟨#[]⟩
def mH(vs:List ByteArray)(ms:List Bool)(i k:Nat):List Pr:=((List.range k).filter (fun j=>decide (i<j)&&eD vs.length ms i j)).map (fun j=>(gD vs i,gD vs j))
def te(vs:List ByteArray)(ms:List Bool)(i:Nat):List Pr:=(List.range i).flatMap (fun i=>mH vs ms i vs.length)
def At(vs:List ByteArray)(ms:List Bool):List Pr:=te vs ms vs.length
theorem EZ:mH H T l (l+1)=[]:=by
 unfold mH;rw[List.map_eq_nil_iff,Th];intro j a;have:=Ra.1 a;simp;omega
theorem Ji(a:f<l)(h:eD H.length T f l=true):mH H T f (l+1)=mH H T f l++[(gD H f,gD H l)]:=by
 unfold mH;rw[R6,RV,Ry];simp[a,h]
theorem LX(h:eD H.length T f l=false):mH H T f (l+1)=mH H T f l:=by
 unfold mH;rw[R6,RV,Ry];simp[h]
theorem yY:te H T (l+1)=te H T l++mH H T l H.length:=by
 unfold te;rw[R6,Sh];simp
theorem yW:(mH H T f l).length<=l:=by
 unfold mH;rw[Ri];have:=Sc (fun j=>decide (f<j)&&eD H.length T f j) (List.range l);simpa using this
theorem CI(i:Nat):(te H T i).length<=i*H.length:=by
 induction i with
 | zero=>simp[te]
 | succ i a =>
  rw[yY,Q0,Uc];have:=yW H T i H.length;omega
def ta(vs:List ByteArray)(ms:List Bool)(i j:Nat):List Pr:=te vs ms i++mH vs ms i j
theorem LW(a:f<=10000)(b:H.length<=10000)(g:l<=10000):(ta H T f l).length<=100010000:=by
 unfold ta;rw[Q0];have c:=CI H T f;have d:=yW H T f l;have e:f*H.length<=10000*10000:=SL a b;omega
theorem GC(h:H.length<=10000):(At H T).length<=100000000:=by
 have a:=CI H T H.length;have b:H.length*H.length<=10000*10000:=SL h h;unfold At;omega
theorem CB(L:Hd)(a:List ByteArray)(K:World)(h:dF K x y w S)(ok:iH w)(hO:aw K L (aB a))(C:a.length<=10000) :
  Calls prog 181 #[.pointer (some ⟨x,y,none⟩),.int .i64 b,.slice L.ao a.length L.cap] K fun e M=>∃o:Hd,e=.returned (.slice o.ao (At a (fN w b a)).length o.cap)/\aw M o (jI (At a (fN w b a)))/\(∀c,o.blk=some c->K.heap.size<=c)/\ab [] K M:=by
 obtain⟨i0,hi,an,ap,al⟩:=Re OY;have N:=hI (DH x y b w S L a K h ok hO C);have r:(fN w b a).length=a.length*a.length:=ko w b a _;generalize fN w b a=d at *;obtain⟨AO,X⟩:∃AO,Hid (L.ao=AO):=⟨_,rfl⟩
 rw[X.out]at N ⊢;go_enter func181,ntmps181;go_wp2_with fail;refine QU N.out ?_;rintro e W ⟨tb,hv,hm,rfl,az,ba,a3,k1⟩;go_wp2
 go_loopg [8,9] a.length (fun gk sv i wr=>∃(k:Nat) (o:Hd),k<=a.length/\gk=a.length-k/\i=.int .i64 k/\sv=.slice o.ao (te a d k).length o.cap/\aw wr o (jI (te a d k))/\(∀c,o.blk=some c->W.heap.size<=c)/\ab [] W wr)
 case atStart=>exact⟨0,⟨none,0⟩,by omega,by omega,rfl,rfl,QZ _ _ _ _,by intro c E;simp[Hd.blk]at E,ab.refl _ _⟩
 case round =>
  obtain⟨k,o,hk,hg,rfl,rfl,H,hN,hK⟩:=hrel
  by_cases B:k<a.length
  ·have a0:=hI (yY a d k)
   have HZ:=hI (EZ a d k);have HB:Hid (ta a d k (k+1)=te a d k):=by show te a d k++_=_;rw[HZ.out,Rl]
   have HE:Hid (ta a d k a.length=te a d (k+1)):=a0.out.symm;go_wp2_with fail
   go_loopg [8,10] (a.length-(k+1)) (fun ai ar i2 R=>∃(j:Nat) (f:Hd),k<j/\j<=a.length/\ai=a.length-j/\i2=.int .i64 j/\ar=.slice f.ao (ta a d k j).length f.cap/\aw R f (jI (ta a d k j))/\(∀c,f.blk=some c->W.heap.size<=c)/\ab [] W R)
   case atStart=>exact⟨k+1,o,by omega,by omega,rfl,by go_num,by rw[HB.out],by rw[HB.out];exact H,hN,hK⟩
   case round =>
    obtain⟨j,f,aS,hj,be,rfl,rfl,q,t,l⟩:=hrel;clear H hN hK;have a7:=LW a d k j (by omega) C (by omega)
    by_cases A:j<a.length
    ·have T:=az.Vb l
     have v:aw wr L (aB a):=hO.Vg (fun c E=>(k1.trans l).block c (hO.lt E) (by simp))
     rcases v.Vm with ⟨_,h0,_⟩ | ⟨p,a2,ev,Y,a4,-⟩
     ·have:a.length=0:=h0
      omega
     have ac:=v.cell ev k (.string a[k]) (by simp[aB,cN,B]);have aT:=v.cell ev j (.string a[j]) (by simp[aB,cN,A]);have a1:=hO.lt (k:=p) (by unfold Hd.blk;rw[ev];rfl);have ag:AO=some ⟨p,0,none⟩:=by rw[<-X.out];exact ev
     subst ag;have V:=ae Y;have P:gD a k=a[k]:=qm a k B;have O:gD a j=a[j]:=qm a j A;have HY:Hid (eD a.length d k j=true->ta a d k (j+1)=ta a d k j++[(gD a k,gD a j)]):=fun hp=>by unfold ta;rw[Ji a d k j aS hp,Sy]
     have I:Hid (eD a.length d k j=false->ta a d k (j+1)=ta a d k j):=fun hp=>by unfold ta;rw[LX a d k j hp]
     rw[P,O]at HY;clear P O Y v;have bd:(k:Int)<a.length:=by omega
     have a5:(j:Int)<a.length:=by omega
     have a6:(0:Int)<=k:=by omega
     have bf:(0:Int)<=j:=by omega
     generalize a[k]=c at *;generalize a[j]=m at *
     cases D:eD a.length d k j
     ·have HT:=hI (I.out D)
      clear HY I;go_wp2_with (go_at_call 215;refine(qh tb a d hv hm k j _ (by exact T) r C B A).mono ?_;rintro e w9 ⟨rfl,G⟩;rw[G,D])
      go_roundg (a.length-(j+1))
      case measure=>omega
      case rel=>exact⟨j+1,f,by omega,by omega,rfl,by go_num,by rw[HT.out],by rw[HT.out];exact q,t,l⟩
     ·have HT:=hI (HY.out D)
      clear HY I;generalize ta a d k j=J at *
      have s3:Hid (∀u∈([.string c,.string m]:List Value),u.oneCell'=true):=by
       intro u hu;simp at hu;rcases hu with rfl | rfl <;> rfl
      have s4:Hid ((jI J).n+1<=maxLen):=by show _<=_;simp only[jI];unfold maxLen;omega
      have s5:Hid (((jI J).n+1)*32<=140737488355328):=by show _<=_;simp only[jI];omega
      have Q:Hid (ab [] wr (wr.alloc (.cells #[.string c,.string m] 227)).drew):=((ab.refl [] wr).alloc _).drew;have hD:Hid (aw (wr.alloc (.cells #[.string c,.string m] 227)).drew f (jI J)):=q.Vg (fun z hz=>Q.out.block z (q.lt hz) (by simp))
      have s2:Hid (∀j u,([.string c,.string m]:List Value)[j]?=some u->(wr.alloc (.cells #[.string c,.string m] 227)).drew.cell? ((⟨wr.heap.size,0,none⟩:Addr).add j)=some u):=by
       intro j u hj;rw[bL];have hk:(wr.alloc (.cells #[.string c,.string m] 227)).drew.heap[wr.heap.size]?=some (.cells #[.string c,.string m] 227 (0,0)):=QS _ _;rw[aa hk];simpa using hj
      have HS:Hid (∀F,(wr.alloc (.cells #[.string c,.string m] 227)).drew.grownBy F f.blk->F.cell? ⟨p,k,none⟩=some (.string c)/\F.cell? ⟨p,j,none⟩=some (.string m)):=by
       intro F ax;have e:F.heap[p]?=wr.heap[p]?:=(ax.block p (QX V Q.out.size) (fun e=>by have:=t p e.symm;have:=k1.size;omega)).trans (Q.out.block p V (by simp));exact⟨by rw[Q6 e];exact ac,by rw[Q6 e];exact aT⟩
      go_upto_region 10 with (go_at_call 215;refine(qh tb a d hv hm k j _ (by exact T) r C B A).mono ?_;rintro e w9 ⟨rfl,G⟩;rw[G,D])
      go_region_held3 (fun M=>M.cell? ⟨p,k,none⟩=some (.string c)/\M.cell? ⟨p,j,none⟩=some (.string m)) (go_keep) ((refine cd (by rfl) (.tmp 33) (.tmp 43) 221 (by rfl) i0 (.agg #[.string ⟨#[]⟩,.string ⟨#[]⟩]) 32 f (jI J) underlying221 hi an ap al rfl Uq (by simp[Act.eval] <;> rfl) hD.out ⟨wr.heap.size,0,none⟩ 1 1 [.string c,.string m] (by simp[Act.eval]) rfl s2.out s3.out Rc s4.out s5.out ?_;intro g5 Z F U s g;obtain⟨q1,q2⟩:=HS.out F s))
      rw[E7 J (c,m),<-HT.out]at U;have af:=(l.trans Q.out).grown s t
      have bc:W.heap.size<=g5:=by
       rcases g with e | e
       ·exact t g5 e
       ·have:=(l.trans Q.out).size;simp at e this;omega
      have ad:Hid ((jI J).n+1=(ta a d k (j+1)).length):=by show _=_;rw[HT.out];simp[jI]
      rw[ad.out];clear s g q1 q2;go_wp2
      go_roundg (a.length-(j+1))
      case measure=>omega
      case rel=>exact⟨j+1,⟨some ⟨g5,0,none⟩,Z⟩,by omega,by omega,rfl,by go_num,rfl,U,by intro c E;simp[Hd.blk]at E;omega,af⟩
    ·have e:j=a.length:=by omega
     subst e;rw[HE.out]at q ⊢;go_wp2
     go_roundg (a.length-(k+1))
     case measure=>omega
     case rel=>exact⟨k+1,f,by omega,rfl,by go_num,rfl,q,t,l⟩
  ·have e:k=a.length:=by omega
   subst e;go_wp2;go_ret;exact⟨o,rfl,H,fun c E=>by have:=hN c E;have:=k1.size;omega,k1.trans hK⟩
def gI(l:List St)(a:Nat):List Pr:=At (eW l (aK l a)) (fN l a (eW l (aK l a)))
def yN(l:List St)(n:Nat):ByteArray:=match l[n]? with | some s=>sR s | none=>⟨#[]⟩
def fh(p:Pr):ByteArray:=⟨#[36,100,32]⟩++p.1++⟨#[32]⟩++p.2
def cW(l:List St)(a:Nat):List ByteArray:=(aK l a).map (yN l)++(gI l a).map fh++[yN l a]
theorem vq(h:l∈aK w f):l<w.length:=by
 unfold aK dG at h;exact Ra.1 (RH.1 h).1
theorem wo:(aK w l).length<=w.length:=by
 unfold aK dG;have:=Sc (l6 w (f8 w l) l) (List.range w.length);simpa using this
theorem tW(a:List Nat):(eW w a).length<=a.length:=To _ _
theorem Pi(h:dF n x y w S)(ha:b<w.length)(B:iH w) :
  Calls prog 135 #[.pointer (some ⟨x,y,none⟩),.int .i64 b] n fun e E=>∃c d:Hd,e=.returned (.agg #[.slice c.ao (aK w b).length c.cap,.slice d.ao (gI w b).length d.cap])/\aw E c (bB (aK w b))/\aw E d (jI (gI w b))/\(∀k,c.blk=some k∨d.blk=some k->n.heap.size<=k)/\ab [] n E:=by
 have L:=B.len;have ad:=wo w b;have ac:=tW w (aK w b);have J:Hid (∀a∈aK w b,a<w.length):=fun a g=>vq w b a g
 have M:Hid (gI w b=At (eW w (aK w b)) (fN w b (eW w (aK w b)))):=rfl;obtain⟨W,C⟩:∃W,W=n.alloc (.cells #[.slice none 0 0,.slice none 0 0] 223):=⟨_,rfl⟩
 have A:ab [] n W:=by rw[C];exact(ab.refl [] _).alloc _
 have K:W.heap[n.heap.size]?=some (.cells #[.slice none 0 0,.slice none 0 0] 223 (0,0)):=by rw[C];exact QS _ _
 have U:=hI C.symm;clear C;have p:=h.Vb A;have G:=hI (mA x y b w S W p ha B);go_enter func135,ntmps135;go_wp2_with fail;rw[U.out];refine QU G.out ?_;rintro e R ⟨c,rfl,f,j,m⟩;go_wp2_with fail;refine(vh x y w S (aK w b) c R (p.Vb m) B f (by omega) J.out).mono ?_;rintro e X ⟨Q,rfl,z,af,r⟩;go_wp2_with fail;refine(CB x y b w S Q (eW w (aK w b)) X ((p.Vb m).Vb r) B z (by omega)).mono ?_;rintro e s ⟨d,rfl,o,l,I⟩;rw[<-M.out]at o ⊢;have i:aw s c (bB (aK w b)):=f.Vg (fun a g=>(r.trans I).block a (f.lt g) (by simp));have q:=((m.trans r).trans I).get K (by simp);have D:ab [] n s:=((A.trans m).trans r).trans I;have Y:=(A.trans m).size;have V:=((A.trans m).trans r).size;have P:=m.size;have N:=r.size;have T:=ae K;have ag:=A.size;have Z:s.cell? ⟨n.heap.size,0,none⟩=some (.slice none 0 0):=by rw[aa q];rfl
 have O:s.cell? ⟨n.heap.size,1,none⟩=some (.slice none 0 0):=by rw[aa q];rfl
 have yf:=am q;have H:Hid (∀u v,aw ((s.setCell ⟨n.heap.size,0,none⟩ u).setCell ⟨n.heap.size,1,none⟩ v) c (bB (aK w b))):=fun u v=>i.Vg (fun a g=>(Q4 _ _ _ _ (by have:=j a g;show a≠n.heap.size;omega)).trans (Q4 _ _ _ _ (by have:=j a g;show a≠n.heap.size;omega)))
 have F:Hid (∀u v,aw ((s.setCell ⟨n.heap.size,0,none⟩ u).setCell ⟨n.heap.size,1,none⟩ v) d (jI (gI w b))):=fun u v=>o.Vg (fun a g=>(Q4 _ _ _ _ (by have:=l a g;show a≠n.heap.size;omega)).trans (Q4 _ _ _ _ (by have:=l a g;show a≠n.heap.size;omega)))
 clear f z o i;go_wp2
 exact QY (v:=.agg #[.slice c.ao (aK w b).length c.cap,.slice d.ao (gI w b).length d.cap]) (by simp[results,results135,go_sem,Z,O]) rfl
  ⟨c,d,rfl,H.out _ _,F.out _ _,fun k t=>t.elim (fun t=>by have:=j k t;omega) (fun t=>by have:=l k t;omega),
   (D.setCell (QV (QR _)) _).setCell (QV (QR _)) _⟩
def pk(L:List ByteArray)(k:Nat):List ByteArray:=L.take k++List.replicate (L.length-k) ⟨#[]⟩
theorem Jf(h:l<=H.length):(pk H l).length=H.length:=by simp[pk];omega
theorem ET(h:l<H.length):pk H (l+1)=(pk H l).set l H[l]:=by
 unfold pk;rw[jo H l h]
 apply Sq
 intro i;have b:(H.take l).length=l:=by simp;omega
 rcases Nat.lt_trichotomy i l with a | a | a
 ·rw[Us (by omega),Q7 (by simp;omega),Q7 (by omega),Q7 (by omega)]
 ·subst a
  rw[Ug (by simp;omega),Q7 (by simp;omega),Q5 (by omega),b];simp
 ·rw[Us (by omega),Q5 (by simp;omega),Q5 (by omega)]
  simp only[List.length_append,b,List.length_singleton,List.getElem?_replicate]
  by_cases c:i<H.length
  ·rw[QW (by omega),QW (by omega)]
  ·rw[QT (by omega),QT (by omega)]
theorem Je:pk H H.length=H:=by simp[pk]
theorem xk:cN (H.set f d)=(cN H).set f (.string d):=by simp[cN,List.map_set]
def lI(w:World)(g:Nat)(L:List ByteArray)(k:Nat):Prop:=w.heap[g]?=some (.cells (cN (pk L k)).toArray 9 (0,0))
theorem lI.next(h:lI i v a k)(b:a[k]?=some D):lI (i.setCell ⟨v,k,none⟩ (.string D)) v a (k+1):=by
 obtain⟨c,rfl⟩:=Q8.1 b;unfold lI at h ⊢;rw[ah h,ET a k c,xk,Ru]
theorem lI.cell{i:Nat}(h:lI i v a k)(b:k<=a.length)(c:i<a.length):∃x,i.cell? ⟨v,i,none⟩=some (.string x):=by
 refine⟨(pk a k)[i]'(by rw[Jf a k b];exact c),?_⟩;rw[aa h];simp[cN]
theorem lI.kept{b:World}{S:List Nat}(h:lI i v a k)(q:ab S i b)(c:v∉S):lI b v a k:=q.get h c
def A7(l:List St):Prop:=∀s∈l,s.kind≠1->M5 s
theorem t8:(cW w l).length=(aK w l).length+(gI w l).length+1:=by simp[cW];omega
theorem II(h:l<(aK w f).length)(a:(aK w f)[l]<w.length):(cW w f)[l]?=some (sR w[(aK w f)[l]]):=by
 unfold cW;rw[Q7 (by simp;omega),Q7 (by simpa using h),Rq,QP h];simp[yN,List.getElem?_eq_getElem a]
theorem Eu(h:l<(gI w f).length):(cW w f)[(aK w f).length+l]?=some (fh (gI w f)[l]):=by
 unfold cW;rw[Q7 (by simp;omega),Q5 (by simp),Rq];simp[h]
theorem Et(a:l<w.length):(cW w l)[(aK w l).length+(gI w l).length]?=some (sR w[l]):=by
 unfold cW;rw[Q5 (by simp)];simp[yN,List.getElem?_eq_getElem a]
theorem Ch(h:l∈aK w f)(c:l<w.length):w[l].kind=2∨w[l].kind=3:=by
 unfold aK dG at h;obtain⟨-,a⟩:=RH.1 h;unfold l6 at a;rw[QP c]at a;simp only[Bool.and_eq_true]at a;have:=a.2;unfold pN at this
 cases b:(w[l].kind==2)
 ·rw[b]at this;right;simpa using this
 ·left;simpa using b
theorem Gm(h:∀x∈H,x.size<=l):(gD H f).size<=l:=by
 unfold gD;rw[QQ]
 cases e:H[f]? with
 | none=>exact Ro _
 | some x=>exact h x (R4 e)
theorem EQ(f:A7 w)(p:Pr)(h:p∈gI w l):p.1.size<=100000/\p.2.size<=100000:=by
 have c:∀x∈eW w (aK w l),x.size<=100000:=by
  intro x e;unfold eW at e;obtain⟨n,d,b⟩:=UE.1 e;have a:=vq w l n d;unfold mQ at b;rw[QP a]at b;simp only at b
  split at b
  ·next k =>
   cases b
   have m:=Ch w l n d a;have g:=f w[n] (Rb a) (by omega);unfold aL
   split
   ·next o =>
    refine g.syms _ ?_;rw[QQ,QP (show 1<w[n].U6.length by omega)];exact Rb _
   ·exact Ro _
  ·cases b
 unfold gI At te at h;obtain⟨i,-,h⟩:=TT.1 h;unfold mH at h;obtain⟨j,-,rfl⟩:=Si.1 h;exact⟨Gm _ _ _ c,Gm _ _ _ c⟩
theorem NX(L:List Pr)(k:Nat)(h:k<L.length):(Jl L)[k*2]?=some (.string L[k].1)/\(Jl L)[k*2+1]?=some (.string L[k].2):=by
 induction L generalizing k with
 | nil=>simp at h
 | cons p L a =>
  cases k with
  | zero=>exact⟨rfl,rfl⟩
  | succ k =>
   have:=a k (by simpa using h);have e:Jl (p :: L)=.string p.1 :: .string p.2 :: Jl L:=rfl;rw[e];refine⟨?_,?_⟩
   ·rw[show(k+1)*2=k*2+1+1 by omega];simpa using this.1
   ·rw[show(k+1)*2+1=k*2+1+1+1 by omega];simpa using this.2
theorem Es(h:dF n x y w S)(ha:b<w.length)(ok:iH w)(hz:A7 w)(a3:w[b].kind≠1) :
  Calls prog 91 #[.pointer (some ⟨x,y,none⟩),.int .i64 b] n fun e w'=>∃g,e=.returned (.slice (some ⟨g,0,none⟩) (cW w b).length (cW w b).length)/\lI w' g (cW w b) (cW w b).length/\n.heap.size<=g/\ab [] n w':=by
 obtain⟨i0,hi,bc,bd,a6⟩:=Re js;have bz:=ok.len;have cl:=wo w b;have bl:=tW w (aK w b);have b3:(gI w b).length<=100000000:=GC _ _ (by omega);have l:=hI (t8 w b);obtain⟨N,C⟩:∃N,Hid ((cW w b).length=N):=⟨_,rfl⟩
 rw[C.out]at l ⊢;have bj:Hid (∀k (h:k<(aK w b).length) (hq:(aK w b)[k]<w.length),(cW w b)[k]?=some (sR w[(aK w b)[k]])):=fun k h hq=>II w b k h hq
 have bk:Hid (∀j (h:j<(gI w b).length),(cW w b)[(aK w b).length+j]?=some (fh (gI w b)[j])):=fun j h=>Eu w b j h
 have a1:Hid ((cW w b)[(aK w b).length+(gI w b).length]?=some (sR w[b])):=Et w b ha;have bf:=hI (EQ w b hz);have bg:Hid (∀ac∈aK w b,∃h:ac<w.length,M5 w[ac]):=fun ac hn=>⟨vq w b ac hn,hz _ (Rb _) (by have:=Ch w b ac hn (vq w b ac hn);omega)⟩
 have be:=hz _ (Rb ha) a3;have bx:=hI (Pi x y b w S n h ha ok);have m1:=fun n=>dB (P:=prog) n 61 9 i0 _ underlying61 hi bc N 1 bd (by rw[a6];have:=l.out;omega) (by have:=l.out;omega)
 obtain⟨mc,Q⟩:∃mc,mc=madeCells (Value.string ⟨#[]⟩).cells (N*1):=⟨_,rfl⟩
 rw[<-Q]at m1
 have br:Hid (mc=(cN (pk (cW w b) 0)).toArray):=by
  show _=_
  rw[Q];have e:(Value.string ⟨#[]⟩).cells=#[.string ⟨#[]⟩]:=rfl;rw[e,Co];simp[pk,cN,C.out]
 clear Q hz;generalize hL:cW w b=L at *;generalize hHy:aK w b=a at *;generalize hPr:gI w b=d at *;clear hL hHy hPr bl;have b2:(a.length:Int)+(d.length:Int)+1=(N:Int):=by have:=l.out;omega
 have cz:N<=200000000:=by have:=l.out;omega
 have cA:a.length+d.length<N:=by have:=l.out;omega
 go_enter func91,ntmps91;go_wp2_with fail;refine QU bx.out ?_;rintro e s ⟨W,z,rfl,az,an,co,k1⟩;obtain⟨J,ap⟩:∃J,Hid (W.ao=J):=⟨_,rfl⟩
 obtain⟨E,ar⟩:∃E,Hid (z.ao=E):=⟨_,rfl⟩
 rw[ap.out,ar.out];obtain⟨X,hX⟩:∃X,X=s.alloc (.cells #[.slice J a.length W.cap,.slice E d.length z.cap] 223):=⟨_,rfl⟩
 have kX:ab [] s X:=by rw[hX];exact(ab.refl [] _).alloc _
 have BX:X.heap[s.heap.size]?=some (.cells #[.slice J a.length W.cap,.slice E d.length z.cap] 223 (0,0)):=by rw[hX];exact QS _ _
 have HX:=hI hX.symm;clear hX;obtain⟨Y,hY⟩:∃Y,Y=X.alloc (.cells mc 9):=⟨_,rfl⟩
 have kY:ab [] X Y:=by rw[hY];exact(ab.refl [] _).alloc _
 have BY:lI Y X.heap.size L 0:=by unfold lI;rw[hY,<-br.out];exact QS _ _
 have HY:=hI hY.symm;clear hY;have u0:X.cell? ⟨s.heap.size,0,none⟩=some (.slice J a.length W.cap):=by rw[aa BX];rfl
 have u1:X.cell? ⟨s.heap.size,1,none⟩=some (.slice E d.length z.cap):=by rw[aa BX];rfl
 have cp:=ae BX;have af:=h.Vb (k1.trans kX);have ca:=(k1.trans kX).size;have D:aw X W (bB a):=az.Vg (fun T I=>kX.block T (az.lt I) (by simp));have r:aw X z (jI d):=an.Vg (fun T I=>kX.block T (an.lt I) (by simp))
 go_upto_region 3 with fail
 rw[HX.out]
 go_upto_region 4 with fail
 rw[HY.out];clear u0 u1 m1;generalize hG:X.heap.size=G at *;go_wp2
 go_loopg [8] a.length (fun gk i wr=>∃(k:Nat),k<=a.length/\gk=a.length-k/\i=.int .i64 k/\lI wr G L k/\ab [] X wr)
 case atStart=>exact⟨0,by omega,by omega,rfl,BY,kY⟩
 case round =>
  obtain⟨k,hk,hg,rfl,Z,hK⟩:=hrel;have o:=af.Vb hK;have B:=hK.get BX (by simp);have a4:=ae B;have u0:wr.cell? ⟨s.heap.size,0,none⟩=some (.slice J a.length W.cap):=by rw[aa B];rfl
  have u1:wr.cell? ⟨s.heap.size,1,none⟩=some (.slice E d.length z.cap):=by rw[aa B];rfl
  by_cases U:k<a.length
  ·have v:aw wr W (bB a):=D.Vg (fun T I=>hK.block T (D.lt I) (by simp))
   rcases v.Vm with ⟨_,h0,_⟩ | ⟨gh,b1,eh,bo,aS,-⟩
   ·have:a.length=0:=h0
    omega
   have ch:=v.cell eh k (.int .i64 a[k]) (jP a k U);have ba:J=some ⟨gh,0,none⟩:=by rw[<-ap.out];exact eh
   subst ba;obtain⟨A,bv⟩:=bg.out a[k] (Rb U);have F:=hI (bj.out k U A);have cs:(k:Int)<a.length:=by omega
   clear eh bo aS v;generalize a[k]=q at *;have R:=ok.syms q A;have K:=(o.Vn.syms q w[q] (QP A)).view;go_wp2_with fail;refine(a9 x y q w S wr o A).mono ?_;rintro e w3 ⟨rfl,k3⟩;go_wp2_with fail;refine(Cl w[q] _ _ w3 (K.Vb k3) R bv).mono ?_;rintro e w4 ⟨rfl,k4⟩;have t:=k3.trans k4;have c:=Z.kept t (by simp);obtain⟨x0,cx⟩:=c.cell (i:=k) (by have:=C.out;omega) (by have:=C.out;omega);have ad:=am c;have ai:=ae c;have p:=hI (c.next F.out);have O:=hK.trans t;have cq:(k:Int)<(N:Int):=by omega
   generalize sR w[q]=tx at *;go_wp2
   go_roundg (a.length-(k+1))
   case measure=>omega
   case rel=>exact⟨k+1,by omega,rfl,by go_num,p.out,O.setCell (QV (US hG)) _⟩
  ·have e:k=a.length:=by omega
   subst e;clear u0;go_wp2
   go_loopg [9] d.length (fun a5 i2 al=>∃(j:Nat),j<=d.length/\a5=d.length-j/\i2=.int .i64 j/\lI al G L (a.length+j)/\ab [] X al)
   case atStart=>exact⟨0,by omega,by omega,rfl,Z,hK⟩
   case round =>
    obtain⟨j,hj,ct,rfl,f,u⟩:=hrel;clear Z hK o B a4 u1;have ax:=u.get BX (by simp);have cj:=ae ax;have u1:wr.cell? ⟨s.heap.size,1,none⟩=some (.slice E d.length z.cap):=by rw[aa ax];rfl
    by_cases M:j<d.length
    ·have m:aw wr z (jI d):=r.Vg (fun T I=>u.block T (r.lt I) (by simp))
     rcases m.Vm with ⟨_,h0,_⟩ | ⟨V,b0,ep,ag,bw,-⟩
     ·have:d.length=0:=h0
      omega
     obtain⟨v1,v2⟩:=NX d j M;have bp:=m.cell ep (j*2) _ v1;have bs:=m.cell ep (j*2+1) _ v2;have cf:=ae ag;have a2:E=some ⟨V,0,none⟩:=by rw[<-ar.out];exact ep
     subst a2;have F:=hI (bk.out j M);obtain⟨z1,z2⟩:=bf.out _ (Rb M);have cb:(j:Int)<d.length:=by omega
     have cy:(0:Int)<=j:=by omega
     have aT:(0:Int)<=(a.length:Int)+(j:Int):=by omega
     have a0:(a.length:Int)+(j:Int)<(N:Int):=by omega
     have b5:IntKind.i64.wrap ((a.length:Int)+(j:Int))=(a.length:Int)+(j:Int):=by rw[R9];omega
     have a7:((a.length:Int)+(j:Int)).toNat=a.length+j:=by omega
     have bT:=r.lt (k:=V) (by unfold Hd.blk;rw[ep];rfl);have cu:G≠s.heap.size:=by omega
     have b4:s.heap.size≠G:=by omega
     have b6:G≠V:=by omega
     have cc:V≠G:=by omega
     clear ep ag bw m v1 v2;generalize d[j]=pp at *;obtain⟨H,p2⟩:=pp;simp only at bp bs z1 z2;have HT:Hid (⟨#[36,100,32]⟩++H++⟨#[32]⟩++p2=fh (H,p2)):=rfl;have n1:¬9223372036854775807<3+H.size:=by omega
     have n2:¬9223372036854775807<3+H.size+1:=by omega
     have n3:¬9223372036854775807<3+H.size+1+p2.size:=by omega
     obtain⟨x0,cx⟩:=f.cell (i:=a.length+j) (by have:=C.out;omega) (by have:=C.out;omega);have ad:=am f;have ai:=ae f;have p:Hid (lI (wr.setCell ⟨G,a.length+j,none⟩ (.string (fh (H,p2)))).drew G L (a.length+j+1)):=(f.next F.out).kept (ab.refl [] _).drew (by simp)
     go_upto_region 11 with fail
     go_region_held3 (fun w'=>w'.cell? ⟨s.heap.size,1,none⟩=some (.slice (some ⟨V,0,none⟩) d.length z.cap)/\w'.cell? ⟨V,j*2,none⟩=some (.string H)/\w'.cell? ⟨V,j*2+1,none⟩=some (.string p2)) (go_keep) (fail)
     rw[HT.out];go_wp2
     go_roundg (d.length-(j+1))
     case measure=>omega
     case rel=>exact⟨j+1,by omega,rfl,by go_num,p.out,(u.setCell (QV (US hG)) _).drew⟩
    ·have e:j=d.length:=by omega
     subst e;have o:=af.Vb u;have K:=(o.Vn.syms b w[b] (QP ha)).view;have R:=ok.syms b ha;have a7:((a.length:Int)+(d.length:Int)).toNat=a.length+d.length:=by omega
     have ck:(N:Int)-1=(a.length:Int)+(d.length:Int):=by omega
     go_wp2_with fail;refine(a9 x y b w S wr o ha).mono ?_;rintro e w3 ⟨rfl,k3⟩;go_wp2_with fail;refine(Cl w[b] _ _ w3 (K.Vb k3) R be).mono ?_;rintro e w4 ⟨rfl,k4⟩;have t:=k3.trans k4;have c:=f.kept t (by simp);obtain⟨x0,cx⟩:=c.cell (i:=a.length+d.length) (by have:=C.out;omega) (by have:=C.out;omega);have ad:=am c;have ai:=ae c;have p:=hI (c.next a1.out);have O:=u.trans t;have aT:(0:Int)<=(a.length:Int)+(d.length:Int):=by omega
     have a0:(a.length:Int)+(d.length:Int)<(N:Int):=by omega
     have HE:Hid (a.length+d.length+1=N):=l.out.symm;rw[HE.out]at p;generalize sR w[b]=tx at *;go_wp2;go_ret;exact⟨G,rfl,p.out,by omega,(k1.trans (kX.trans O)).setCell (QV (by show n.heap.size<=G;omega)) _⟩
theorem nI.recd{a:Fs}{H:Nat->Hd}(h:nI i v a o H k):dF i v 10 o H:=by
 obtain⟨d,e,c,b⟩:=h.ver;exact⟨⟨_,_,b.1,rfl⟩,h.Vn⟩
theorem Jz(l:List St)(H:Nat->Hd)(w:World)(h:dF w b f l H)(c:l.length<=1073741824) :
  Calls prog 90 #[.pointer (some ⟨b,f,none⟩),.string d] w fun e g=>e=.returned (.int .i64 (nB (gC l d)))/\ab [] w g:=by
 have a:=hI (sG b f d l H w h c);go_enter func90,ntmps90;go_wp2_with fail;refine QU a.out ?_;rintro e j ⟨rfl,i⟩;go_wp2;go_ret;exact⟨rfl,i⟩
theorem E6(h:dF n x y w S)(m:b<w.length)(i:iH w)(k:A7 w)(c:w[b].kind≠1) :
  Calls prog 60 #[.pointer (some ⟨x,y,none⟩),.int .i64 b] n fun e d=>∃g,e=.returned (.slice (some ⟨g,0,none⟩) (cW w b).length (cW w b).length)/\lI d g (cW w b) (cW w b).length/\n.heap.size<=g/\ab [] n d:=by
 have a:=hI (Es x y b w S n h m i k c);go_enter func60,ntmps60;go_wp2_with fail;refine QU a.out ?_;rintro e o ⟨g,rfl,f,j,l⟩;go_wp2;go_ret;exact⟨g,rfl,f,j,l⟩
theorem J7(h:nI n b L w S f)(k:w.length<=1073741824) :
  Calls prog 59 #[.pointer (some ⟨b,0,none⟩),.string d] n fun e p=>e=.returned (match gC w d with | some c=>.tuple #[.int .i64 c,.int .i64 0] | none=>.tuple #[.int .i64 0,.int .i64 8])/\ab [] n p:=by
 have a:=hI (Jz b 10 d w S n h.recd k);obtain⟨x,u,t,i⟩:=h.ver;obtain⟨v,r,m,o⟩:=iI.cells i;have s:=bi.lt i
 cases j:gC w d with
 | none =>
  rw[j]at a;simp only[nB]at a;go_enter func59,ntmps59;go_wp2_with fail;refine QU a.out ?_;rintro e q ⟨rfl,g⟩;go_wp2;go_ret2;exact⟨rfl,g⟩
 | some c =>
  rw[j]at a;simp only[nB]at a;have l:¬(c:Int)<0:=by omega
  go_enter func59,ntmps59;go_wp2_with fail;refine QU a.out ?_;rintro e q ⟨rfl,g⟩;go_wp2;go_ret2;exact⟨rfl,g⟩
def yb(l:List St)(lab:ByteArray)(w:World)(e:Ending)(w':World):Prop :=
 ab [] w w'/\match gC l lab with
  | some n=>∃g,e=.returned (.tuple #[.slice (some ⟨g,0,none⟩) (cW l n).length (cW l n).length,.int .i64 0])/\lI w' g (cW l n) (cW l n).length/\w.heap.size<=g
  | none=>e=.returned (.tuple #[.slice none 0 0,.int .i64 8])
theorem Lg(h:gC o D=some v):∃h:v<o.length,qP o[v].kind=true/\o[v].label.toList=D.toList:=by
 unfold gC at h;have b:=Ra.1 (Rz h);have a:=Tm h;rw[yQ o D v b]at a;simp only[Bool.and_eq_true]at a;exact⟨b,a.2,by simpa using a.1⟩
theorem FE(h:nI n b L w S f)(l:iH w)(x:A7 w) :
  Calls prog 39 #[.pointer (some ⟨b,0,none⟩),.string d] n fun e s=>yb w d n e s:=by
 have o:=l.len;have c:=J7 b L w S f d n h (by omega);have z:=bi.lt (Um (Um (Um h.ver)));unfold yb
 cases k:gC w d with
 | none =>
  rw[k]at c;have a:=hI c;clear c;go_enter func39,ntmps39;go_wp2_with fail;refine QU a.out ?_;rintro e p ⟨rfl,g⟩;go_wp2;go_ret2;exact⟨g,rfl⟩
 | some m =>
  rw[k]at c;obtain⟨v,q,-⟩:=Lg k;have j:w[m].kind≠1:=by intro e;rw[e]at q;revert q;decide
  have a:=hI c;clear c;go_enter func39,ntmps39;go_wp2_with fail;refine QU a.out ?_;rintro e p ⟨rfl,g⟩;have i:=(h.Vb g).recd;have u:=i.lt;go_wp2_with fail;refine(E6 b 10 m w S p i v l x j).mono ?_;rintro e B ⟨y,rfl,t,C,r⟩;have A:=g.size;go_wp2;go_ret2;exact⟨g.trans r,y,rfl,t,by omega⟩
end Go.Proofs.YtpddjjabfbfifaaGreat
