import Derived.Test.YtpddjjabfbfifaaGreatG09
namespace Go.Proofs.YtpddjjabfbfifaaGreat
open Go.RowKit Tryz
set_option maxRecDepth 100000
set_option maxHeartbeats 40000000
variable{i:World}{v k:Nat}{a:List ByteArray}{D:ByteArray}{o:List St}(x y b:Nat)(L:Fs)(w:List St)(S:Nat->Hd)(H:List ByteArray)(T:List Bool)(f:Nat)(d:ByteArray)(n:World)(l:Nat)
abbrev Pr:=ByteArray×ByteArray
def QB(p:Pr):List Value:=[.string p.1,.string p.2]
def Jl(l:List Pr):List Value:=l.flatMap QB
def jI(l:List Pr):dN:=⟨227,2,l.length,Jl l⟩
theorem E7(l:List Pr)(x:Pr):(⟨(jI l).e,(jI l).size,(jI l).n+1,(jI l).xs++[.string x.1,.string x.2]⟩:dN)=jI (l++[x]):=by
 simp[jI,Jl,QB]
theorem OY:(prog.info? 227).map (fun i=>(i.zero,i.size,i.bytes))=some (some (.agg #[.string ⟨#[]⟩,.string ⟨#[]⟩]),2,32):=by kernel_rfl
def gD(vs:List ByteArray)(i:Nat):ByteArray:=vs.getD i ⟨#[]⟩
def mH(vs:List ByteArray)(ms:List Bool)(i k:Nat):List Pr:=((List.range k).filter (fun j=>decide (i<j)&&eD vs.length ms i j)).map (fun j=>(gD vs i,gD vs j))
def te(vs:List ByteArray)(ms:List Bool)(i:Nat):List Pr:=(List.range i).flatMap (fun i=>mH vs ms i vs.length)
def At(vs:List ByteArray)(ms:List Bool):List Pr:=te vs ms vs.length
theorem EZ:mH H T l (l+1)=[]:=by
 unfold mH;rw[List.map_eq_nil_iff,Th];intro j a;have:=Ra.1 a;simp;omega
theorem Ji(a:f<l)(h:eD H.length T f l=true):mH H T f (l+1)=mH H T f l++[(gD H f,gD H l)]:=by
 unfold mH;rw[R6,RV,Ry];simp[a,h]
theorem LX(h:eD H.length T f l=false):mH H T f (l+1)=mH H T f l:=by
 unfold mH;rw[R6,RV,Ry];simp[h]
theorem yY:te H T (l+1)=te H T l++mH H T l H.length:=by
 unfold te;rw[R6,Sh];simp
theorem yW:(mH H T f l).length<=l:=by
 unfold mH;rw[Ri];have:=Sc (fun j=>decide (f<j)&&eD H.length T f j) (List.range l);simpa using this
theorem CI(i:Nat):(te H T i).length<=i*H.length:=by
 induction i with
 | zero=>simp[te]
 | succ i a =>
  rw[yY,Q0,Uc];have:=yW H T i H.length;omega
def ta(vs:List ByteArray)(ms:List Bool)(i j:Nat):List Pr:=te vs ms i++mH vs ms i j
theorem LW(a:f<=10000)(b:H.length<=10000)(c:l<=10000):(ta H T f l).length<=100010000:=by
 unfold ta;rw[Q0];have e:=CI H T f;have g:=yW H T f l;have d:f*H.length<=10000*10000:=SL a b;omega
theorem GC(h:H.length<=10000):(At H T).length<=100000000:=by
 have a:=CI H T H.length;have b:H.length*H.length<=10000*10000:=SL h h;unfold At;omega
theorem CB(K:Hd)(a:List ByteArray)(L:World)(h:dF L x y w S)(ok:iH w)(hO:aw L K (aB a))(A:a.length<=10000) :
  Calls prog 181 #[.pointer (some ⟨x,y,none⟩),.int .i64 b,.slice K.ao a.length K.cap] L fun e O=>∃m:Hd,e=.returned (.slice m.ao (At a (fN w b a)).length m.cap)/\aw O m (jI (At a (fN w b a)))/\(∀c,m.blk=some c->L.heap.size<=c)/\ab [] L O:=by
 obtain⟨i0,hi,ad,ar,aT⟩:=Re OY;have R:=hI (DH x y b w S K a L h ok hO A);have t:(fN w b a).length=a.length*a.length:=ko w b a _;generalize fN w b a=d at *;obtain⟨AO,X⟩:∃AO,Hid (K.ao=AO):=⟨_,rfl⟩
 rw[X.out]at R ⊢;go_enter func181,ntmps181;go_wp2_with fail;refine QU R.out ?_;rintro e N ⟨tb,hv,hm,rfl,a1,bd,be,k1⟩;go_wp2
 go_loopg [8,9] a.length (fun gk sv i wr=>∃(k:Nat) (m:Hd),k<=a.length/\gk=a.length-k/\i=.int .i64 k/\sv=.slice m.ao (te a d k).length m.cap/\aw wr m (jI (te a d k))/\(∀c,m.blk=some c->N.heap.size<=c)/\ab [] N wr)
 case atStart=>exact⟨0,⟨none,0⟩,by omega,by omega,rfl,rfl,QZ _ _ _ _,by intro c G;simp[Hd.blk]at G,ab.refl _ _⟩
 case round =>
  obtain⟨k,m,hk,hg,rfl,rfl,E,hN,hK⟩:=hrel
  by_cases v:k<a.length
  ·have az:=hI (yY a d k)
   have HZ:=hI (EZ a d k);have HB:Hid (ta a d k (k+1)=te a d k):=by show te a d k++_=_;rw[HZ.out,Rl]
   have HE:Hid (ta a d k a.length=te a d (k+1)):=az.out.symm;go_wp2_with fail
   go_loopg [8,10] (a.length-(k+1)) (fun al aS i2 ac=>∃(j:Nat) (f:Hd),k<j/\j<=a.length/\al=a.length-j/\i2=.int .i64 j/\aS=.slice f.ao (ta a d k j).length f.cap/\aw ac f (jI (ta a d k j))/\(∀c,f.blk=some c->N.heap.size<=c)/\ab [] N ac)
   case atStart=>exact⟨k+1,m,by omega,by omega,rfl,by go_num,by rw[HB.out],by rw[HB.out];exact E,hN,hK⟩
   case round =>
    obtain⟨j,f,af,hj,a5,rfl,rfl,q,p,l⟩:=hrel;clear E hN hK;have a4:=LW a d k j (by omega) A (by omega)
    by_cases B:j<a.length
    ·have U:=a1.Vb l
     have D:aw wr K (aB a):=hO.Vg (fun c G=>(k1.trans l).block c (hO.lt G) (by simp))
     rcases D.Vm with ⟨_,h0,_⟩ | ⟨s,a2,ev,Q,a6,-⟩
     ·have:a.length=0:=h0
      omega
     have a0:=D.cell ev k (.string a[k]) (by simp[aB,cN,v]);have ap:=D.cell ev j (.string a[j]) (by simp[aB,cN,B]);have a3:=hO.lt (k:=s) (by unfold Hd.blk;rw[ev];rfl);have an:AO=some ⟨s,0,none⟩:=by rw[<-X.out];exact ev
     subst an;have P:=ae Q;have Z:gD a k=a[k]:=qm a k v;have W:gD a j=a[j]:=qm a j B;have HY:Hid (eD a.length d k j=true->ta a d k (j+1)=ta a d k j++[(gD a k,gD a j)]):=fun hp=>by unfold ta;rw[Ji a d k j af hp,Sy]
     have H:Hid (eD a.length d k j=false->ta a d k (j+1)=ta a d k j):=fun hp=>by unfold ta;rw[LX a d k j hp]
     rw[Z,W]at HY;clear Z W Q D;have ba:(k:Int)<a.length:=by omega
     have bf:(j:Int)<a.length:=by omega
     have a7:(0:Int)<=k:=by omega
     have bc:(0:Int)<=j:=by omega
     generalize a[k]=c at *;generalize a[j]=o at *
     cases C:eD a.length d k j
     ·have T:=hI (H.out C)
      clear HY H;go_wp2_with (go_at_call 215;refine(qh tb a d hv hm k j _ (by exact U) t A v B).mono ?_;rintro e w9 ⟨rfl,F⟩;rw[F,C])
      go_roundg (a.length-(j+1))
      case measure=>omega
      case rel=>exact⟨j+1,f,by omega,by omega,rfl,by go_num,by rw[T.out],by rw[T.out];exact q,p,l⟩
     ·have T:=hI (HY.out C)
      clear HY H;generalize ta a d k j=J at *
      have s3:Hid (∀u∈([.string c,.string o]:List Value),u.oneCell'=true):=by
       intro u hu;simp at hu;rcases hu with rfl | rfl <;> rfl
      have s4:Hid ((jI J).n+1<=maxLen):=by show _<=_;simp only[jI];unfold maxLen;omega
      have s5:Hid (((jI J).n+1)*32<=140737488355328):=by show _<=_;simp only[jI];omega
      have V:Hid (ab [] wr (wr.alloc (.cells #[.string c,.string o] 227)).drew):=((ab.refl [] wr).alloc _).drew;have hD:Hid (aw (wr.alloc (.cells #[.string c,.string o] 227)).drew f (jI J)):=q.Vg (fun z hz=>V.out.block z (q.lt hz) (by simp))
      have s2:Hid (∀j u,([.string c,.string o]:List Value)[j]?=some u->(wr.alloc (.cells #[.string c,.string o] 227)).drew.cell? ((⟨wr.heap.size,0,none⟩:Addr).add j)=some u):=by
       intro j u hj;rw[bL];have hk:(wr.alloc (.cells #[.string c,.string o] 227)).drew.heap[wr.heap.size]?=some (.cells #[.string c,.string o] 227 (0,0)):=QS _ _;rw[aa hk];simpa using hj
      have HS:Hid (∀I,(wr.alloc (.cells #[.string c,.string o] 227)).drew.grownBy I f.blk->I.cell? ⟨s,k,none⟩=some (.string c)/\I.cell? ⟨s,j,none⟩=some (.string o)):=by
       intro I ax;have e:I.heap[s]?=wr.heap[s]?:=(ax.block s (QX P V.out.size) (fun e=>by have:=p s e.symm;have:=k1.size;omega)).trans (V.out.block s P (by simp));exact⟨by rw[Q6 e];exact a0,by rw[Q6 e];exact ap⟩
      go_upto_region 10 with (go_at_call 215;refine(qh tb a d hv hm k j _ (by exact U) t A v B).mono ?_;rintro e w9 ⟨rfl,F⟩;rw[F,C])
      go_region_held3 (fun O=>O.cell? ⟨s,k,none⟩=some (.string c)/\O.cell? ⟨s,j,none⟩=some (.string o)) (go_keep) ((refine cd (by rfl) (.tmp 33) (.tmp 43) 221 (by rfl) i0 (.agg #[.string ⟨#[]⟩,.string ⟨#[]⟩]) 32 f (jI J) underlying221 hi ad ar aT rfl Uq (by simp[Act.eval] <;> rfl) hD.out ⟨wr.heap.size,0,none⟩ 1 1 [.string c,.string o] (by simp[Act.eval]) rfl s2.out s3.out Rc s4.out s5.out ?_;intro g5 M I Y r g;obtain⟨q1,q2⟩:=HS.out I r))
      rw[E7 J (c,o),<-T.out]at Y;have ai:=(l.trans V.out).grown r p
      have bg:N.heap.size<=g5:=by
       rcases g with e | e
       ·exact p g5 e
       ·have:=(l.trans V.out).size;simp at e this;omega
      have ag:Hid ((jI J).n+1=(ta a d k (j+1)).length):=by show _=_;rw[T.out];simp[jI]
      rw[ag.out];clear r g q1 q2;go_wp2
      go_roundg (a.length-(j+1))
      case measure=>omega
      case rel=>exact⟨j+1,⟨some ⟨g5,0,none⟩,M⟩,by omega,by omega,rfl,by go_num,rfl,Y,by intro c G;simp[Hd.blk]at G;omega,ai⟩
    ·have e:j=a.length:=by omega
     subst e;rw[HE.out]at q ⊢;go_wp2
     go_roundg (a.length-(k+1))
     case measure=>omega
     case rel=>exact⟨k+1,f,by omega,rfl,by go_num,rfl,q,p,l⟩
  ·have e:k=a.length:=by omega
   subst e;go_wp2;go_ret;exact⟨m,rfl,E,fun c G=>by have:=hN c G;have:=k1.size;omega,k1.trans hK⟩
def gI(l:List St)(a:Nat):List Pr:=At (eW l (aK l a)) (fN l a (eW l (aK l a)))
def yN(l:List St)(n:Nat):ByteArray:=match l[n]? with | some s=>sR s | none=>⟨#[]⟩
def fh(p:Pr):ByteArray:=⟨#[36,100,32]⟩++p.1++⟨#[32]⟩++p.2
def cW(l:List St)(a:Nat):List ByteArray:=(aK l a).map (yN l)++(gI l a).map fh++[yN l a]
theorem vq(h:l∈aK w f):l<w.length:=by
 unfold aK dG at h;exact Ra.1 (RH.1 h).1
theorem wo:(aK w l).length<=w.length:=by
 unfold aK dG;have:=Sc (l6 w (f8 w l) l) (List.range w.length);simpa using this
theorem tW(a:List Nat):(eW w a).length<=a.length:=To _ _
theorem Pi(h:dF n x y w S)(Z:b<w.length)(C:iH w) :
  Calls prog 135 #[.pointer (some ⟨x,y,none⟩),.int .i64 b] n fun e F=>∃c f:Hd,e=.returned (.agg #[.slice c.ao (aK w b).length c.cap,.slice f.ao (gI w b).length f.cap])/\aw F c (bB (aK w b))/\aw F f (jI (gI w b))/\(∀k,c.blk=some k∨f.blk=some k->n.heap.size<=k)/\ab [] n F:=by
 have K:=C.len;have M:=wo w b;have P:=tW w (aK w b);have J:Hid (∀a∈aK w b,a<w.length):=fun a d=>vq w b a d
 have X:Hid (gI w b=At (eW w (aK w b)) (fN w b (eW w (aK w b)))):=rfl;obtain⟨W,B⟩:∃W,W=n.alloc (.cells #[.slice none 0 0,.slice none 0 0] 223):=⟨_,rfl⟩
 have z:ab [] n W:=by rw[B];exact(ab.refl [] _).alloc _
 have L:W.heap[n.heap.size]?=some (.cells #[.slice none 0 0,.slice none 0 0] 223 (0,0)):=by rw[B];exact QS _ _
 have HW:=hI B.symm;clear B;have o:=h.Vb z;have G:=hI (mA x y b w S W o Z C);go_enter func135,ntmps135;go_wp2_with fail;rw[HW.out];refine QU G.out ?_;rintro e w1 ⟨c,rfl,g,q,m⟩;go_wp2_with fail;refine(vh x y w S (aK w b) c w1 (o.Vb m) C g (by omega) J.out).mono ?_;rintro e O ⟨T,rfl,A,N,r⟩;go_wp2_with fail;refine(CB x y b w S T (eW w (aK w b)) O ((o.Vb m).Vb r) C A (by omega)).mono ?_;rintro e s ⟨f,rfl,j,l,E⟩;rw[<-X.out]at j ⊢;have i:aw s c (bB (aK w b)):=g.Vg (fun a d=>(r.trans E).block a (g.lt d) (by simp));have p:=((m.trans r).trans E).get L (by simp);have I:ab [] n s:=((z.trans m).trans r).trans E;have af:=(z.trans m).size;have V:=((z.trans m).trans r).size;have ac:=m.size;have ad:=r.size;have Y:=ae L;have R:=z.size;have Q:s.cell? ⟨n.heap.size,0,none⟩=some (.slice none 0 0):=by rw[aa p];rfl
 have U:s.cell? ⟨n.heap.size,1,none⟩=some (.slice none 0 0):=by rw[aa p];rfl
 have yf:=am p;have H:Hid (∀u v,aw ((s.setCell ⟨n.heap.size,0,none⟩ u).setCell ⟨n.heap.size,1,none⟩ v) c (bB (aK w b))):=fun u v=>i.Vg (fun a d=>(Q4 _ _ _ _ (by have:=q a d;show a≠n.heap.size;omega)).trans (Q4 _ _ _ _ (by have:=q a d;show a≠n.heap.size;omega)))
 have D:Hid (∀u v,aw ((s.setCell ⟨n.heap.size,0,none⟩ u).setCell ⟨n.heap.size,1,none⟩ v) f (jI (gI w b))):=fun u v=>j.Vg (fun a d=>(Q4 _ _ _ _ (by have:=l a d;show a≠n.heap.size;omega)).trans (Q4 _ _ _ _ (by have:=l a d;show a≠n.heap.size;omega)))
 clear g A j i;go_wp2
 exact QY (v:=.agg #[.slice c.ao (aK w b).length c.cap,.slice f.ao (gI w b).length f.cap]) (by simp[results,results135,go_sem,Q,U]) rfl
  ⟨c,f,rfl,H.out _ _,D.out _ _,fun k t=>t.elim (fun t=>by have:=q k t;omega) (fun t=>by have:=l k t;omega),
   (I.setCell (QV (QR _)) _).setCell (QV (QR _)) _⟩
def pk(L:List ByteArray)(k:Nat):List ByteArray:=L.take k++List.replicate (L.length-k) ⟨#[]⟩
theorem Jf(h:l<=H.length):(pk H l).length=H.length:=by simp[pk];omega
theorem ET(h:l<H.length):pk H (l+1)=(pk H l).set l H[l]:=by
 unfold pk;rw[jo H l h]
 apply Sq
 intro i;have b:(H.take l).length=l:=by simp;omega
 rcases Nat.lt_trichotomy i l with a | a | a
 ·rw[Us (by omega),Q7 (by simp;omega),Q7 (by omega),Q7 (by omega)]
 ·subst a
  rw[Ug (by simp;omega),Q7 (by simp;omega),Q5 (by omega),b];simp
 ·rw[Us (by omega),Q5 (by simp;omega),Q5 (by omega)]
  simp only[List.length_append,b,List.length_singleton,List.getElem?_replicate]
  by_cases c:i<H.length
  ·rw[QW (by omega),QW (by omega)]
  ·rw[QT (by omega),QT (by omega)]
theorem Je:pk H H.length=H:=by simp[pk]
theorem xk:cN (H.set f d)=(cN H).set f (.string d):=by simp[cN,List.map_set]
def lI(w:World)(g:Nat)(L:List ByteArray)(k:Nat):Prop:=w.heap[g]?=some (.cells (cN (pk L k)).toArray 9 (0,0))
theorem lI.next(h:lI i v a k)(b:a[k]?=some D):lI (i.setCell ⟨v,k,none⟩ (.string D)) v a (k+1):=by
 obtain⟨c,rfl⟩:=Q8.1 b;unfold lI at h ⊢;rw[ah h,ET a k c,xk,Ru]
theorem lI.cell{i:Nat}(h:lI i v a k)(c:k<=a.length)(b:i<a.length):∃x,i.cell? ⟨v,i,none⟩=some (.string x):=by
 refine⟨(pk a k)[i]'(by rw[Jf a k c];exact b),?_⟩;rw[aa h];simp[cN]
theorem lI.kept{b:World}{S:List Nat}(h:lI i v a k)(q:ab S i b)(c:v∉S):lI b v a k:=q.get h c
def A7(l:List St):Prop:=∀s∈l,s.kind≠1->M5 s
theorem t8:(cW w l).length=(aK w l).length+(gI w l).length+1:=by simp[cW];omega
theorem II(h:l<(aK w f).length)(a:(aK w f)[l]<w.length):(cW w f)[l]?=some (sR w[(aK w f)[l]]):=by
 unfold cW;rw[Q7 (by simp;omega),Q7 (by simpa using h),Rq,QP h];simp[yN,List.getElem?_eq_getElem a]
theorem Eu(h:l<(gI w f).length):(cW w f)[(aK w f).length+l]?=some (fh (gI w f)[l]):=by
 unfold cW;rw[Q7 (by simp;omega),Q5 (by simp),Rq];simp[h]
theorem Et(a:l<w.length):(cW w l)[(aK w l).length+(gI w l).length]?=some (sR w[l]):=by
 unfold cW;rw[Q5 (by simp)];simp[yN,List.getElem?_eq_getElem a]
theorem Ch(h:l∈aK w f)(c:l<w.length):w[l].kind=2∨w[l].kind=3:=by
 unfold aK dG at h;obtain⟨-,a⟩:=RH.1 h;unfold l6 at a;rw[QP c]at a;simp only[Bool.and_eq_true]at a;have:=a.2;unfold pN at this
 cases b:(w[l].kind==2)
 ·rw[b]at this;right;simpa using this
 ·left;simpa using b
theorem Gm(h:∀x∈H,x.size<=l):(gD H f).size<=l:=by
 unfold gD;rw[QQ]
 cases e:H[f]? with
 | none=>exact Ro _
 | some x=>exact h x (R4 e)
theorem EQ(f:A7 w)(p:Pr)(h:p∈gI w l):p.1.size<=100000/\p.2.size<=100000:=by
 have d:∀x∈eW w (aK w l),x.size<=100000:=by
  intro x e;unfold eW at e;obtain⟨n,c,b⟩:=UE.1 e;have a:=vq w l n c;unfold mQ at b;rw[QP a]at b;simp only at b
  split at b
  ·next o =>
   cases b
   have k:=Ch w l n c a;have g:=f w[n] (Rb a) (by omega);unfold aL
   split
   ·next m =>
    refine g.syms _ ?_;rw[QQ,QP (show 1<w[n].U6.length by omega)];exact Rb _
   ·exact Ro _
  ·cases b
 unfold gI At te at h;obtain⟨i,-,h⟩:=TT.1 h;unfold mH at h;obtain⟨j,-,rfl⟩:=Si.1 h;exact⟨Gm _ _ _ d,Gm _ _ _ d⟩
theorem NX(L:List Pr)(k:Nat)(h:k<L.length):(Jl L)[k*2]?=some (.string L[k].1)/\(Jl L)[k*2+1]?=some (.string L[k].2):=by
 induction L generalizing k with
 | nil=>simp at h
 | cons p L a =>
  cases k with
  | zero=>exact⟨rfl,rfl⟩
  | succ k =>
   have:=a k (by simpa using h);have e:Jl (p :: L)=.string p.1 :: .string p.2 :: Jl L:=rfl;rw[e];refine⟨?_,?_⟩
   ·rw[show(k+1)*2=k*2+1+1 by omega];simpa using this.1
   ·rw[show(k+1)*2+1=k*2+1+1+1 by omega];simpa using this.2
theorem Es(h:dF n x y w S)(ha:b<w.length)(ok:iH w)(hz:A7 w)(a1:w[b].kind≠1) :
  Calls prog 91 #[.pointer (some ⟨x,y,none⟩),.int .i64 b] n fun e w'=>∃g,e=.returned (.slice (some ⟨g,0,none⟩) (cW w b).length (cW w b).length)/\lI w' g (cW w b) (cW w b).length/\n.heap.size<=g/\ab [] n w':=by
 obtain⟨i0,hi,aS,a4,bv⟩:=Re js;have b0:=ok.len;have cf:=wo w b;have bd:=tW w (aK w b);have cy:(gI w b).length<=100000000:=GC _ _ (by omega);have l:=hI (t8 w b);obtain⟨N,D⟩:∃N,Hid ((cW w b).length=N):=⟨_,rfl⟩
 rw[D.out]at l ⊢;have bg:Hid (∀k (h:k<(aK w b).length) (hq:(aK w b)[k]<w.length),(cW w b)[k]?=some (sR w[(aK w b)[k]])):=fun k h hq=>II w b k h hq
 have a5:Hid (∀j (h:j<(gI w b).length),(cW w b)[(aK w b).length+j]?=some (fh (gI w b)[j])):=fun j h=>Eu w b j h
 have bj:Hid ((cW w b)[(aK w b).length+(gI w b).length]?=some (sR w[b])):=Et w b ha;have bf:=hI (EQ w b hz);have bw:Hid (∀ac∈aK w b,∃h:ac<w.length,M5 w[ac]):=fun ac hn=>⟨vq w b ac hn,hz _ (Rb _) (by have:=Ch w b ac hn (vq w b ac hn);omega)⟩
 have aT:=hz _ (Rb ha) a1;have a7:=hI (Pi x y b w S n h ha ok);have m1:=fun n=>dB (P:=prog) n 61 9 i0 _ underlying61 hi aS N 1 a4 (by rw[bv];have:=l.out;omega) (by have:=l.out;omega)
 obtain⟨mc,J⟩:∃mc,mc=madeCells (Value.string ⟨#[]⟩).cells (N*1):=⟨_,rfl⟩
 rw[<-J]at m1
 have bs:Hid (mc=(cN (pk (cW w b) 0)).toArray):=by
  show _=_
  rw[J];have e:(Value.string ⟨#[]⟩).cells=#[.string ⟨#[]⟩]:=rfl;rw[e,Co];simp[pk,cN,D.out]
 clear J hz;generalize hL:cW w b=L at *;generalize hHy:aK w b=a at *;generalize hPr:gI w b=d at *;clear hL hHy hPr bd;have ck:(a.length:Int)+(d.length:Int)+1=(N:Int):=by have:=l.out;omega
 have cl:N<=200000000:=by have:=l.out;omega
 have cu:a.length+d.length<N:=by have:=l.out;omega
 go_enter func91,ntmps91;go_wp2_with fail;refine QU a7.out ?_;rintro e s ⟨U,z,rfl,ad,af,cb,k1⟩;obtain⟨V,ap⟩:∃V,Hid (U.ao=V):=⟨_,rfl⟩
 obtain⟨E,ar⟩:∃E,Hid (z.ao=E):=⟨_,rfl⟩
 rw[ap.out,ar.out];obtain⟨X,hX⟩:∃X,X=s.alloc (.cells #[.slice V a.length U.cap,.slice E d.length z.cap] 223):=⟨_,rfl⟩
 have kX:ab [] s X:=by rw[hX];exact(ab.refl [] _).alloc _
 have BX:X.heap[s.heap.size]?=some (.cells #[.slice V a.length U.cap,.slice E d.length z.cap] 223 (0,0)):=by rw[hX];exact QS _ _
 have HX:=hI hX.symm;clear hX;obtain⟨Y,hY⟩:∃Y,Y=X.alloc (.cells mc 9):=⟨_,rfl⟩
 have kY:ab [] X Y:=by rw[hY];exact(ab.refl [] _).alloc _
 have BY:lI Y X.heap.size L 0:=by unfold lI;rw[hY,<-bs.out];exact QS _ _
 have HY:=hI hY.symm;clear hY;have u0:X.cell? ⟨s.heap.size,0,none⟩=some (.slice V a.length U.cap):=by rw[aa BX];rfl
 have u1:X.cell? ⟨s.heap.size,1,none⟩=some (.slice E d.length z.cap):=by rw[aa BX];rfl
 have cz:=ae BX;have ag:=h.Vb (k1.trans kX);have b6:=(k1.trans kX).size;have C:aw X U (bB a):=ad.Vg (fun Q R=>kX.block Q (ad.lt R) (by simp));have u:aw X z (jI d):=af.Vg (fun Q R=>kX.block Q (af.lt R) (by simp))
 go_upto_region 3 with fail
 rw[HX.out]
 go_upto_region 4 with fail
 rw[HY.out];clear u0 u1 m1;generalize hG:X.heap.size=G at *;go_wp2
 go_loopg [8] a.length (fun gk i wr=>∃(k:Nat),k<=a.length/\gk=a.length-k/\i=.int .i64 k/\lI wr G L k/\ab [] X wr)
 case atStart=>exact⟨0,by omega,by omega,rfl,BY,kY⟩
 case round =>
  obtain⟨k,hk,hg,rfl,I,hK⟩:=hrel;have o:=ag.Vb hK;have B:=hK.get BX (by simp);have ba:=ae B;have u0:wr.cell? ⟨s.heap.size,0,none⟩=some (.slice V a.length U.cap):=by rw[aa B];rfl
  have u1:wr.cell? ⟨s.heap.size,1,none⟩=some (.slice E d.length z.cap):=by rw[aa B];rfl
  by_cases H:k<a.length
  ·have t:aw wr U (bB a):=C.Vg (fun Q R=>hK.block Q (C.lt R) (by simp))
   rcases t.Vm with ⟨_,h0,_⟩ | ⟨gh,bz,eh,bp,be,-⟩
   ·have:a.length=0:=h0
    omega
   have ch:=t.cell eh k (.int .i64 a[k]) (jP a k H);have a6:V=some ⟨gh,0,none⟩:=by rw[<-ap.out];exact eh
   subst a6;obtain⟨A,bo⟩:=bw.out a[k] (Rb H);have K:=hI (bg.out k H A);have b5:(k:Int)<a.length:=by omega
   clear eh bp be t;generalize a[k]=q at *;have F:=ok.syms q A;have W:=(o.Vn.syms q w[q] (QP A)).view;go_wp2_with fail;refine(a9 x y q w S wr o A).mono ?_;rintro e w3 ⟨rfl,k3⟩;go_wp2_with fail;refine(Cl w[q] _ _ w3 (W.Vb k3) F bo).mono ?_;rintro e w4 ⟨rfl,k4⟩;have r:=k3.trans k4;have c:=I.kept r (by simp);obtain⟨x0,cx⟩:=c.cell (i:=k) (by have:=D.out;omega) (by have:=D.out;omega);have an:=am c;have al:=ae c;have p:=hI (c.next K.out);have M:=hK.trans r;have cp:(k:Int)<(N:Int):=by omega
   generalize sR w[q]=tx at *;go_wp2
   go_roundg (a.length-(k+1))
   case measure=>omega
   case rel=>exact⟨k+1,by omega,rfl,by go_num,p.out,M.setCell (QV (US hG)) _⟩
  ·have e:k=a.length:=by omega
   subst e;clear u0;go_wp2
   go_loopg [9] d.length (fun a3 i2 ax=>∃(j:Nat),j<=d.length/\a3=d.length-j/\i2=.int .i64 j/\lI ax G L (a.length+j)/\ab [] X ax)
   case atStart=>exact⟨0,by omega,by omega,rfl,I,hK⟩
   case round =>
    obtain⟨j,hj,b2,rfl,f,v⟩:=hrel;clear I hK o B ba u1;have az:=v.get BX (by simp);have cc:=ae az;have u1:wr.cell? ⟨s.heap.size,1,none⟩=some (.slice E d.length z.cap):=by rw[aa az];rfl
    by_cases T:j<d.length
    ·have m:aw wr z (jI d):=u.Vg (fun Q R=>v.block Q (u.lt R) (by simp))
     rcases m.Vm with ⟨_,h0,_⟩ | ⟨O,bT,ep,ai,a0,-⟩
     ·have:d.length=0:=h0
      omega
     obtain⟨v1,v2⟩:=NX d j T;have bl:=m.cell ep (j*2) _ v1;have bx:=m.cell ep (j*2+1) _ v2;have cq:=ae ai;have bk:E=some ⟨O,0,none⟩:=by rw[<-ar.out];exact ep
     subst bk;have K:=hI (a5.out j T);obtain⟨z1,z2⟩:=bf.out _ (Rb T);have cA:(j:Int)<d.length:=by omega
     have ca:(0:Int)<=j:=by omega
     have a2:(0:Int)<=(a.length:Int)+(j:Int):=by omega
     have bc:(a.length:Int)+(j:Int)<(N:Int):=by omega
     have b3:IntKind.i64.wrap ((a.length:Int)+(j:Int))=(a.length:Int)+(j:Int):=by rw[R9];omega
     have br:((a.length:Int)+(j:Int)).toNat=a.length+j:=by omega
     have b1:=u.lt (k:=O) (by unfold Hd.blk;rw[ep];rfl);have ct:G≠s.heap.size:=by omega
     have cj:s.heap.size≠G:=by omega
     have cs:G≠O:=by omega
     have co:O≠G:=by omega
     clear ep ai a0 m v1 v2;generalize d[j]=pp at *;obtain⟨Z,p2⟩:=pp;simp only at bl bx z1 z2;have HT:Hid (⟨#[36,100,32]⟩++Z++⟨#[32]⟩++p2=fh (Z,p2)):=rfl;have n1:¬9223372036854775807<3+Z.size:=by omega
     have n2:¬9223372036854775807<3+Z.size+1:=by omega
     have n3:¬9223372036854775807<3+Z.size+1+p2.size:=by omega
     obtain⟨x0,cx⟩:=f.cell (i:=a.length+j) (by have:=D.out;omega) (by have:=D.out;omega);have an:=am f;have al:=ae f;have p:Hid (lI (wr.setCell ⟨G,a.length+j,none⟩ (.string (fh (Z,p2)))).drew G L (a.length+j+1)):=(f.next K.out).kept (ab.refl [] _).drew (by simp)
     go_upto_region 11 with fail
     go_region_held3 (fun w'=>w'.cell? ⟨s.heap.size,1,none⟩=some (.slice (some ⟨O,0,none⟩) d.length z.cap)/\w'.cell? ⟨O,j*2,none⟩=some (.string Z)/\w'.cell? ⟨O,j*2+1,none⟩=some (.string p2)) (go_keep) (fail)
     rw[HT.out];go_wp2
     go_roundg (d.length-(j+1))
     case measure=>omega
     case rel=>exact⟨j+1,by omega,rfl,by go_num,p.out,(v.setCell (QV (US hG)) _).drew⟩
    ·have e:j=d.length:=by omega
     subst e;have o:=ag.Vb v;have W:=(o.Vn.syms b w[b] (QP ha)).view;have F:=ok.syms b ha;have br:((a.length:Int)+(d.length:Int)).toNat=a.length+d.length:=by omega
     have b4:(N:Int)-1=(a.length:Int)+(d.length:Int):=by omega
     go_wp2_with fail;refine(a9 x y b w S wr o ha).mono ?_;rintro e w3 ⟨rfl,k3⟩;go_wp2_with fail;refine(Cl w[b] _ _ w3 (W.Vb k3) F aT).mono ?_;rintro e w4 ⟨rfl,k4⟩;have r:=k3.trans k4;have c:=f.kept r (by simp);obtain⟨x0,cx⟩:=c.cell (i:=a.length+d.length) (by have:=D.out;omega) (by have:=D.out;omega);have an:=am c;have al:=ae c;have p:=hI (c.next bj.out);have M:=v.trans r;have a2:(0:Int)<=(a.length:Int)+(d.length:Int):=by omega
     have bc:(a.length:Int)+(d.length:Int)<(N:Int):=by omega
     have HE:Hid (a.length+d.length+1=N):=l.out.symm;rw[HE.out]at p;generalize sR w[b]=tx at *;go_wp2;go_ret;exact⟨G,rfl,p.out,by omega,(k1.trans (kX.trans M)).setCell (QV (by show n.heap.size<=G;omega)) _⟩
theorem nI.recd{a:Fs}{H:Nat->Hd}(h:nI i v a o H k):dF i v 10 o H:=by
 obtain⟨d,e,c,b⟩:=h.ver;exact⟨⟨_,_,b.1,rfl⟩,h.Vn⟩
theorem Jz(l:List St)(H:Nat->Hd)(w:World)(h:dF w b f l H)(c:l.length<=1073741824) :
  Calls prog 90 #[.pointer (some ⟨b,f,none⟩),.string d] w fun e i=>e=.returned (.int .i64 (nB (gC l d)))/\ab [] w i:=by
 have a:=hI (sG b f d l H w h c);go_enter func90,ntmps90;go_wp2_with fail;refine QU a.out ?_;rintro e j ⟨rfl,g⟩;go_wp2;go_ret;exact⟨rfl,g⟩
theorem E6(h:dF n x y w S)(l:b<w.length)(i:iH w)(f:A7 w)(c:w[b].kind≠1) :
  Calls prog 60 #[.pointer (some ⟨x,y,none⟩),.int .i64 b] n fun e d=>∃g,e=.returned (.slice (some ⟨g,0,none⟩) (cW w b).length (cW w b).length)/\lI d g (cW w b) (cW w b).length/\n.heap.size<=g/\ab [] n d:=by
 have a:=hI (Es x y b w S n h l i f c);go_enter func60,ntmps60;go_wp2_with fail;refine QU a.out ?_;rintro e o ⟨g,rfl,k,m,j⟩;go_wp2;go_ret;exact⟨g,rfl,k,m,j⟩
theorem J7(h:nI n b L w S f)(k:w.length<=1073741824) :
  Calls prog 59 #[.pointer (some ⟨b,0,none⟩),.string d] n fun e m=>e=.returned (match gC w d with | some c=>.tuple #[.int .i64 c,.int .i64 0] | none=>.tuple #[.int .i64 0,.int .i64 8])/\ab [] n m:=by
 have a:=hI (Jz b 10 d w S n h.recd k);obtain⟨x,v,t,i⟩:=h.ver;obtain⟨u,q,l,o⟩:=iI.cells i;have p:=bi.lt i
 cases j:gC w d with
 | none =>
  rw[j]at a;simp only[nB]at a;go_enter func59,ntmps59;go_wp2_with fail;refine QU a.out ?_;rintro e r ⟨rfl,g⟩;go_wp2;go_ret2;exact⟨rfl,g⟩
 | some c =>
  rw[j]at a;simp only[nB]at a;have s:¬(c:Int)<0:=by omega
  go_enter func59,ntmps59;go_wp2_with fail;refine QU a.out ?_;rintro e r ⟨rfl,g⟩;go_wp2;go_ret2;exact⟨rfl,g⟩
def yb(l:List St)(lab:ByteArray)(w:World)(e:Ending)(w':World):Prop :=
 ab [] w w'/\match gC l lab with
  | some n=>∃g,e=.returned (.tuple #[.slice (some ⟨g,0,none⟩) (cW l n).length (cW l n).length,.int .i64 0])/\lI w' g (cW l n) (cW l n).length/\w.heap.size<=g
  | none=>e=.returned (.tuple #[.slice none 0 0,.int .i64 8])
theorem Lg(h:gC o D=some v):∃h:v<o.length,qP o[v].kind=true/\o[v].label.toList=D.toList:=by
 unfold gC at h;have b:=Ra.1 (Rz h);have a:=Tm h;rw[yQ o D v b]at a;simp only[Bool.and_eq_true]at a;exact⟨b,a.2,by simpa using a.1⟩
theorem FE(h:nI n b L w S f)(p:iH w)(v:A7 w) :
  Calls prog 39 #[.pointer (some ⟨b,0,none⟩),.string d] n fun e u=>yb w d n e u:=by
 have m:=p.len;have c:=J7 b L w S f d n h (by omega);have x:=bi.lt (Um (Um (Um h.ver)));unfold yb
 cases k:gC w d with
 | none =>
  rw[k]at c;have a:=hI c;clear c;go_enter func39,ntmps39;go_wp2_with fail;refine QU a.out ?_;rintro e q ⟨rfl,g⟩;go_wp2;go_ret2;exact⟨g,rfl⟩
 | some l =>
  rw[k]at c;obtain⟨y,o,-⟩:=Lg k;have j:w[l].kind≠1:=by intro e;rw[e]at o;revert o;decide
  have a:=hI c;clear c;go_enter func39,ntmps39;go_wp2_with fail;refine QU a.out ?_;rintro e q ⟨rfl,g⟩;have i:=(h.Vb g).recd;have r:=i.lt;go_wp2_with fail;refine(E6 b 10 l w S q i y p v j).mono ?_;rintro e A ⟨t,rfl,z,B,s⟩;have C:=g.size;go_wp2;go_ret2;exact⟨g.trans s,t,rfl,z,by omega⟩
end Go.Proofs.YtpddjjabfbfifaaGreat
