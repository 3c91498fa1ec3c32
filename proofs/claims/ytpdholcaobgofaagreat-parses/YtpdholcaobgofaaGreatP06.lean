import Derived.Deep.RegionHeld3
import Derived.BigQuiet
import Derived.Test.YtpdholcaobgofaaGreatP05
namespace Go.Proofs.YtpdholcaobgofaaGreat
open Go.RowKit Tryz
open Value IntKind Ending
set_option maxHeartbeats 0
variable{f i g:World}{T d y3 y0 yr:Nat}{m zt:List Value}{t:Db}{S L y9:Nat->Hd}{z4:Xu}{yd:Fs}{yg:List Bool}{y5 y7:Xr}{M:List St}{y8:Nat->Bool}(N I zf o H y l:Nat)(b:Fs)(z6:List Value)(v:List Bool)(c:List Value)(z7:Xr)(k:List St)(z5:Nat->Hd)(y1 z8:Xr)(y4:Int)(D:World)(ys yt yu yv:Value)(y2 s:Nat)
theorem pN(l c:Int)(f:Bool)(w:World) :
  Calls prog 158 #[agg #[string y1,int i64 y4,bool f,string z8,int i64 l,int i64 c]] w fun e a=>e=returned (agg #[int i64 (if f=true then 7 else y4),string z8,int i64 l,int i64 c])/\aa [] w a:=by
 cases f
 ·go_enter func158,ntmps158;go_wp2;exact XG (v:=agg #[int i64 y4,string z8,int i64 l,int i64 c]) (by simp[results,results158,go_sem]) rfl ⟨rfl,((aa.refl _ _).alloc _).alloc _⟩
 ·go_enter func158,ntmps158;go_wp2;exact XG (v:=agg #[int i64 7,string z8,int i64 l,int i64 c]) (by simp[results,results158,go_sem]) rfl ⟨rfl,((aa.refl _ _).alloc _).alloc _⟩
def eZ(v:Nat)(bg:List Bool):List Value:=pointer (some ⟨v,0,none⟩) :: bg.map bool
theorem kN(h:v.length=4):(eZ l v).length=5:=by simp[eZ,h]
theorem a9.pre(h:a9 f T d m zt t S)(i:Nat)(b:i<m.length)(u:Value) :
  a9 (f.setCell ⟨T,i,none⟩ u) T d (m.set i u) zt t S/\aw T f S (f.setCell ⟨T,i,none⟩ u) S:=by
 refine⟨⟨?_,?_,h.apart,h.off⟩,(fB.refl _ _).setCell (XQ (XQ rfl)) _,fun _ a=>XQ a⟩
 ·rw[ae h.Zbx,Yh,Zab _ _ b]
 ·intro j;refine(h.ZbH j).Zbo (fun k a=>XN _ _ _ _ ?_);rintro rfl;exact h.off j a
theorem a9.preCell(h:a9 f T d m zt t S)(i:Nat)(a:i<m.length):f.cell? ⟨T,i,none⟩=m[i]?:=by
 rw[ab h.Zbx];simp[List.getElem?_append_left a]
def g7(b sp:Nat)(w:World)(H:Nat->Hd)(w':World)(H':Nat->Hd):Prop :=
 fB (fun k=>k=b∨k=sp∨eG H k) w w'/\∀k,eG H' k->eG H k∨w.heap.size<=k
theorem aw.Zbo{w':World}(t:aw T f S w' L):g7 T s f S w' L :=
 ⟨⟨t.1.os,t.1.tape,t.1.output,t.1.size,fun k a b=>t.1.block k a (fun e=>b (e.elim XQ (fun e=>XK (XK e))))⟩,t.2⟩
theorem g7.trans{w1:World}(a:g7 T d f S w1 L)(c:g7 T d w1 L i y9):g7 T d f S i y9:=by
 refine⟨⟨c.1.os.trans a.1.os,c.1.tape.trans a.1.tape,c.1.output.trans a.1.output,XF a.1.size c.1.size,?_⟩,?_⟩
 ·intro k b g;rw[<-a.1.block k b g];refine c.1.block k (XB b a.1.size) ?_;rintro (e | e | j)
  ·exact g (XQ e)
  ·exact g (XK (XQ e))
  ·rcases a.2 k j with h | h
   ·exact g (XK (XK h))
   ·omega
 ·intro k b;rcases c.2 k b with h | h
  ·exact a.2 k h
  ·exact XK (XF a.1.size h)
theorem g7.refl(H:Nat->Hd):g7 y l D H D H:=⟨fB.refl _ _,fun _ a=>XQ a⟩
theorem g7.Zbj(a:g7 T d f S i L)(c:aa [] i g):g7 T d f S g L :=
 a.trans ⟨c.toP (by simp),fun _ b=>XQ b⟩
theorem g7.first(c:aa [] f i)(a:g7 T d i S g L):g7 T d f S g L :=
 g7.trans ⟨c.toP (by simp),fun _ b=>XQ b⟩ a
theorem g7.scan(a:g7 T d f S i L)(c:aa [d] i g):g7 T d f S g L :=
 a.trans ⟨c.toP (by intro k b _;simp at b;exact XK (XQ b)),fun _ b=>XQ b⟩
theorem g7.beyond(a:g7 T d f S i L)(k:aa z4 i g)(e:∀x,x∈z4->f.heap.size<=x):g7 T d f S g L :=
 ⟨⟨k.os.trans a.1.os,k.tape.trans a.1.tape,k.output.trans a.1.output,XF a.1.size k.size,fun b c l=>by
  rw[<-a.1.block b c l];exact k.block b (XB c a.1.size) (fun j=>by have:=e b j;omega)⟩,a.2⟩
theorem g7.fresh(a:g7 T d f S i L)(F:Nat)(e:F<f.heap.size)(b:¬eG S F):¬eG L F:=by
 intro c;rcases a.2 F c with h | h
 ·exact b h
 ·omega
theorem aw.fresh(a:aw T f S i L)(F:Nat)(d:F<f.heap.size)(b:¬eG S F):¬eG L F:=by
 intro c;rcases a.2 F c with h | h
 ·exact b h
 ·omega
theorem kJ{w:World}{r:Nat}:aa [r] w ((((w.setCell ⟨r,0,none⟩ ys).setCell ⟨r,1,none⟩ yt).setCell ⟨r,2,none⟩ yu).setCell ⟨r,3,none⟩ yv) :=
 ((((aa.refl _ _).sl1 _).sl1 _).sl1 _).sl1 _
theorem Lb(a b:Value):aa [T] f ((((((f.setCell ⟨T,0,none⟩ ys).setCell ⟨T,1,none⟩ yt).setCell ⟨T,2,none⟩ yu).setCell ⟨T,3,none⟩ yv).setCell ⟨T,4,none⟩ a).setCell ⟨T,5,none⟩ b) :=
 ((((((aa.refl _ _).sl1 _).sl1 _).sl1 _).sl1 _).sl1 _).sl1 _
def bM:Array Value:=#[int i64 0,string ⟨#[]⟩,int i64 0,int i64 0]
theorem dh(h:f.heap[T]?=some (.cells bM 87)) :
  f.cell? ⟨T,0,none⟩=some (int i64 0)/\f.cell? ⟨T,1,none⟩=some (string ⟨#[]⟩)/\f.cell? ⟨T,2,none⟩=some (int i64 0)/\f.cell? ⟨T,3,none⟩=some (int i64 0):=by
 refine⟨?_,?_,?_,?_⟩ <;> (rw[ab h];rfl)
theorem qC{F:Nat}(D:a9 i T d m zt t L)(b:aw T f S i L)(a:f.heap.size<=F)(k:T≠F)(l:¬eG L F)(c e g j:Value) :
  a9 ((((i.setCell ⟨F,0,none⟩ c).setCell ⟨F,1,none⟩ e).setCell ⟨F,2,none⟩ g).setCell ⟨F,3,none⟩ j) T d m zt t L /\
  aw T f S ((((i.setCell ⟨F,0,none⟩ c).setCell ⟨F,1,none⟩ e).setCell ⟨F,2,none⟩ g).setCell ⟨F,3,none⟩ j) L:=by
 refine⟨D.Zbw (kJ _ _ _ _) (by simpa using k) (fun x n=>by simp;rintro rfl;exact l n),?_,b.2⟩;exact(((b.1.setCell (XK a) _).setCell (XK a) _).setCell (XK a) _).setCell (XK a) _
set_option maxRecDepth 100000
theorem xQ(E:v.length=4)(d:Db)(p:Nat->Hd)(sp:Value)(x n:Xr)(i c:Int)(w:World)(h:a9 w H y (eZ l v) [] d p)(hs:hZ d 10000000)(hx:x.size<=1073741824)(hi:FE d 100000000)(hn:(x.toList == [36,91])=false) :
  Calls prog 156 #[pointer (some ⟨H,0,none⟩),sp,agg #[string x,int i64 0,bool false,string n,int i64 i,int i64 c]] w fun e g =>
   e=returned (jh (if((aY d x ⟨n,i,c⟩).1==0)=true then dJ else((aY d x ⟨n,i,c⟩).1,⟨n,i,c⟩))) /\
   ∃O,a9 g H y (eZ l v) [] (aY d x ⟨n,i,c⟩).2 O/\aw H w p g O:=by
 have ac:=h.lt;have C:=fun(g:World) (h':a9 g H y (eZ l v) [] d p)=>TU H y 5 (eZ l v) [] d p x n i c g h' (kN l v E) hs hx hi;unfold jG at C;have t:Xq _:=C;clear C;generalize aY d x ⟨n,i,c⟩=td at *;obtain⟨r,d'⟩:=td;simp only at t;obtain⟨W,B⟩:∃W,W=((w.alloc (.cells #[string x,int i64 0,bool false,string n,int i64 i,int i64 c] 255)).alloc (.cells #[int i64 0,string ⟨#[]⟩,int i64 0,int i64 0] 87)):=⟨_,rfl⟩
 have S:aa [] w W:=by rw[B];exact((aa.refl [] w).alloc _).alloc _
 have P:a9 W H y (eZ l v) [] d p:=h.Zbj S;have R:W.heap[w.heap.size]?=some (.cells #[string x,int i64 0,bool false,string n,int i64 i,int i64 c] 255):=by
  rw[B];exact(bH.alloc _).get (XD _ _) (by simp)
 have Q:W.heap[w.heap.size+1]?=some (.cells bM 87):=by
  rw[B];have:=XD (w.alloc (.cells #[string x,int i64 0,bool false,string n,int i64 i,int i64 c] 255)) (.cells #[int i64 0,string ⟨#[]⟩,int i64 0,int i64 0] 87);simpa [bM] using this
 have s:Xq (∀k,w.heap.size<=k->¬(k=H∨eG p k)):=by
  rintro k hk (e | G)
  ·omega
  ·have:=h.inlt G;omega
 have U:Xq _:=B.symm;clear B h;obtain⟨i0,-,-,i3,i4,i5⟩:=NP R
 have z:=(show Xq _ from fun(a:World) (b:Nat->Hd) (u:a9 a H y (eZ l v) [] d' b) (f:aw H W.drew p a b) (V X Y Z:Value) =>
  qC u ((f.first (aa.refl [] W).drew).first S) (F:=w.heap.size+1) (by omega) (by omega) (f.fresh (w.heap.size+1) (by exact ah Q) (fun G=>s.o (w.heap.size+1) (by omega) (XK G))) V X Y Z)
 have q:Xq _:=fun(a:World) (b:Nat->Hd) (f:aw H W.drew p a b)=>(show _/\_ from⟨f.1.get (by exact R) (s.o _ (Xy _)),f.1.get (by exact Q) (s.o _ (by omega))⟩)
 have N:∀(a:World) (b:Nat->Hd) (_:aw H W.drew p a b),a.cell? ⟨w.heap.size,0,none⟩=some (string x)/\a.cell? ⟨w.heap.size,3,none⟩=some (string n)/\a.cell? ⟨w.heap.size,4,none⟩=some (int i64 i)/\a.cell? ⟨w.heap.size,5,none⟩=some (int i64 c):=by
  intro a b f;have D:=(q.o a b f).1;refine⟨?_,?_,?_,?_⟩ <;> (rw[ab D];rfl)
 have A:Xq _:=N;clear N;go_enter func156,ntmps156;go_upto_region 1 with fail
 rw[U.o];go_upto_region 3 with fail
 cases T:(r==0)
 ·have I:(r != 0)=true:=by simp[bne,T]
  go_region_held3 (fun g=>g.cell? ⟨w.heap.size,0,none⟩=some (string x)/\g.cell? ⟨w.heap.size,3,none⟩=some (string n)/\g.cell? ⟨w.heap.size,4,none⟩=some (int i64 i)/\g.cell? ⟨w.heap.size,5,none⟩=some (int i64 c)) (go_keep) (first | (go_at_call 205;refine(t.o _ (by exact P.Zbj bH.drew)).mono ?_;rintro e a ⟨rfl,b,u,f⟩;obtain⟨r0,r3,r4,r5⟩:=A.o a b f))
  all_goals
   have m:=(q.o a b f).2;have j:Xq _:=z.o a b u f;obtain⟨J,K,L,M⟩:=dh m;have ad:=zcW m;go_wp2;exact XG (v:=agg #[int i64 r,string n,int i64 i,int i64 c]) (by simp[results,results156,go_sem,J,K,L,M]) rfl
    ⟨rfl,b,(j.o _ _ _ _).1,(j.o _ _ _ _).2⟩
 ·have I:(r != 0)=false:=by simp[bne,T]
  go_region_held3 (fun g=>g.cell? ⟨w.heap.size,0,none⟩=some (string x)/\g.cell? ⟨w.heap.size,3,none⟩=some (string n)/\g.cell? ⟨w.heap.size,4,none⟩=some (int i64 i)/\g.cell? ⟨w.heap.size,5,none⟩=some (int i64 c)) (go_keep) (first | (go_at_call 205;refine(t.o _ (by exact P.Zbj bH.drew)).mono ?_;rintro e a ⟨rfl,b,u,f⟩;obtain⟨r0,r3,r4,r5⟩:=A.o a b f))
  all_goals
   have m:=(q.o a b f).2;have j:Xq _:=z.o a b u f;obtain⟨J,K,L,M⟩:=dh m;have ad:=zcW m;go_wp2;exact XG (v:=agg #[int i64 0,string ⟨#[]⟩,int i64 0,int i64 0]) (by simp[results,results156,go_sem,J,K,L,M]) rfl
    ⟨rfl,b,(j.o _ _ _ _).1,(j.o _ _ _ _).2⟩
def lj(b v:Nat)(fs:Fs)(f j:Nat)(bg:List Bool)(d:Db)(H:Nat->Hd)(w:World):Prop :=
 Calls prog 110 #[pointer (some ⟨b,0,none⟩),int i64 j] w fun e w'=>e=returned (jh (dn fs f j bg d).1)/\∃H',a9 w' b 200 (eZ v (dn fs f j bg d).2.1) [] (dn fs f j bg d).2.2 H'/\aw b w H w' H'
theorem lQ{F:Nat}(D:a9 i T d m zt t L)(g:g7 T y3 f S i L)(j:f.heap.size<=F)(k:T≠F)(l:¬eG L F)(a b c e:Value) :
  a9 ((((i.setCell ⟨F,0,none⟩ a).setCell ⟨F,1,none⟩ b).setCell ⟨F,2,none⟩ c).setCell ⟨F,3,none⟩ e) T d m zt t L /\
  g7 T y3 f S ((((i.setCell ⟨F,0,none⟩ a).setCell ⟨F,1,none⟩ b).setCell ⟨F,2,none⟩ c).setCell ⟨F,3,none⟩ e) L :=
 ⟨D.Zbw (kJ _ _ _ _) (by simpa using k) (fun x n=>by simp;rintro rfl;exact l n),g.beyond (kJ _ _ _ _) (by simpa using j)⟩
theorem uH(f:Bool)(p:Nat):jh (j8 z7 y1 ⟨z8,y4,f,p⟩)=agg #[int i64 (if f=true then 7 else y4),string z7,int i64 (bb y1 p),int i64 (bN y1 p)]:=rfl
structure vM(w w':World)(b v tt sp z:Nat)(fs:Fs)(more:List Value)(bg:List Bool)(d:Db)(H:Nat->Hd)(n s:Xr):Prop where
 D:a9 w' b 200 (eZ v bg) [] d H
 TB:bO w' v tt fs more
 SC:cM w' sp n s z
 F:w'.heap[w.heap.size+1]?=some (.cells bM 87)
 M:g7 b sp w H w' H
theorem vM.Zbj(a:vM f i T d y3 y0 yr yd m yg t S y5 y7)(k:aa [] i g):vM f g T d y3 y0 yr yd m yg t S y5 y7 :=
 ⟨a.D.Zbj k,a.TB.Zbw k (by simp),a.SC.Zbw k (by simp),k.get a.F (by simp),a.M.Zbj k⟩
theorem vM.next{b:Nat}(a:vM f i T d y3 y0 yr yd m yg t S y5 y7)(k:aa [y0] i g)(c:cM g y0 y5 y7 b)(j:y0≠T)(l:d≠y0)(n:¬eG S y0)(p:y0<f.heap.size):vM f g T d y3 y0 b yd m yg t S y5 y7 :=
 ⟨a.D.Zbw k (by simpa using fun e=>j e.symm) (by intro x o;simp;rintro rfl;exact n o),a.TB.Zbw k (by simpa using l),c,k.get a.F (by simp;omega),a.M.scan k⟩
theorem GN(aT:v.length=4)(d:Db)(x:Nat->Hd)(n s:Xr)(u c:Int)(w:World)(h:a9 w N 200 (eZ I v) [] d x)(hn:aI b y=n)(bp:ak b y=s)(hs:s.size<=1024)(hz:l<=s.size)(ao:cM w o n s l)(ht:bO w I zf b z6)(V:o≠N)(bd:I≠o)(ap:¬eG x o)(RF:Xq (∀(j:Nat) (w':World),j<b.length->a9 w' N 200 (eZ I v) [] d x->bO w' I zf b z6->lj N I b H j v d x w')) :
  Calls prog 204 #[pointer (some ⟨N,0,none⟩),pointer (some ⟨o,0,none⟩),agg #[string n,int i64 u,int i64 c]] w fun e w' =>
   e=returned (jh (pG (dn b H) b y l ⟨n,u,c⟩ v d).1.1)/\∃H',a9 w' N 200 (eZ I (pG (dn b H) b y l ⟨n,u,c⟩ v d).1.2.1) [] (pG (dn b H) b y l ⟨n,u,c⟩ v d).1.2.2 H'/\g7 N o w x w' H' /\
    (((pG (dn b H) b y l ⟨n,u,c⟩ v d).1.1.1==0)=true->cM w' o n s (pG (dn b H) b y l ⟨n,u,c⟩ v d).2):=by
 obtain⟨W,hW⟩:∃W,W=((w.alloc (.cells #[string n,int i64 u,int i64 c] 36)).alloc (.cells #[int i64 0,string ⟨#[]⟩,int i64 0,int i64 0] 87)):=⟨_,rfl⟩
 have hK:aa [] w W:=by rw[hW];exact((aa.refl [] w).alloc _).alloc _
 have b1:=h.lt;have ai:=ah ao;have D:a9 W N 200 (eZ I v) [] d x:=h.Zbj hK;have SC:cM W o n s l:=ao.Zbw hK (by simp);have TB:bO W I zf b z6:=ht.Zbw hK (by simp);have hP:W.heap[w.heap.size]?=some (.cells #[string n,int i64 u,int i64 c] 36):=by
  rw[hW];exact(bH.alloc _).get (XD _ _) (by simp)
 have hF:W.heap[w.heap.size+1]?=some (.cells bM 87):=by
  rw[hW];have:=XD (w.alloc (.cells #[string n,int i64 u,int i64 c] 36)) (.cells #[int i64 0,string ⟨#[]⟩,int i64 0,int i64 0] 87);simpa [bM] using this
 have A:Xq (∀k,w.heap.size<=k->¬eG x k):=fun k hk hm=>by have:=h.inlt hm;omega
 have HW:Xq _:=hW.symm;have bz:=ah hF;have MK:Xq (g7 N o w x W x):=(g7.refl N o w x).Zbj hK;clear hW h ao ht;have G:Xq (pG (dn b H) b y l ⟨n,u,c⟩ v d=match vj b y l ⟨n,u,c⟩ d with | .inl q=>((q,v,d),l) | .inr (j,z')=>(dn b H j v d,z')):=rfl;have z:Xq (vj b y l ⟨n,u,c⟩ d=_):=(show vj b y l ⟨n,u,c⟩ d=_ from by unfold vj;rw[hn,bp])
 cases ho:lU d
 ·have aq:=gU s l hz;have bs:=vp s l hs;have be:=gU s (aF s l).2 aq.2.1;have a7:=sP (aF s l).1.text b;generalize hr1:aF s l=r1 at *;obtain⟨⟨X,u1,f1,C⟩,z1⟩:=r1;simp only at aq bs be a7 z;have bv:=vp s z1 hs;generalize hr2:aF s z1=r2 at *;obtain⟨⟨t2,u2,f2,Q⟩,z2⟩:=r2;simp only at be bv z;rw[ho]at z;have S0:vM w W N I zf o l b z6 v d x n s:=⟨D,TB,SC,hF,MK.o⟩;go_enter func204,ntmps204;go_upto_region 1 with fail
  rw[HW.o];go_wp2_with fail;refine(wG N 200 5 (eZ I v) [] d x _ D (kN I v aT)).mono ?_;rintro e w1 ⟨rfl,t⟩;subst t;rw[ho];go_wp2_with fail;refine(wF o l n s _ hs hz SC).mono ?_;rintro e w2 ⟨rfl,Y,ba⟩;rw[hr1]at Y ⊢;simp only[gJ]at Y ⊢;have S2:=S0.next ba Y V bd ap ai;obtain⟨W3,ac⟩:∃W3,W3=w2.alloc (.cells #[string X,int i64 u1,bool f1,string n,int i64 (bb s C),int i64 (bN s C)] 255):=⟨_,rfl⟩
  have ax:Xq _:=ac.symm;have S3:vM w W3 N I zf o z1 b z6 v d x n s:=by rw[ac];exact S2.Zbj (bH.alloc _)
  have I3:lE W3 w2.heap.size n s ⟨X,u1,f1,C⟩:=by rw[ac];exact XD _ _
  clear ac S0 S2 Y ba D TB SC hP hF hK HW hr1;go_upto_region 4 with fail
  rw[ax.o];clear ax;obtain⟨g,i,m,p,a4,a5⟩:=I3.cells;go_wp2_with fail;refine(dW X n u1 (bb s C) (bN s C) f1 _).mono ?_;rintro e w4 ⟨rfl,am⟩;have J:=S3.Zbj am;have I4:=I3.Zbw am (by simp);clear g i m p a4 a5 S3 I3 am;obtain⟨g,i,m,p,a4,a5⟩:=I4.cells;have bT:=ah I4;have bw:=ah J.F;cases t:(u1==0 && !f1)
  ·have f:Xq (pG (dn b H) b y l ⟨n,u,c⟩ v d=((j8 n s ⟨X,u1,f1,C⟩,v,d),l)):=by
    show _=_;rw[G.o,z.o];simp[aQ,t]
   clear G z;go_wp2_with fail;refine(pN X n u1 (bb s C) (bN s C) f1 _).mono ?_;rintro e w5 ⟨rfl,bm⟩;obtain⟨q,hq⟩:∃q:Int,Xq ((if f1=true then(7:Int) else u1)=q):=⟨_,rfl⟩
   rw[hq.o];have S:=J.Zbj bm;obtain⟨K,L,O,P⟩:=dh S.F;have ar:=zcW S.F;have a:Xq _:=(fun g i m p=>lQ S.D S.M (F:=w.heap.size+1) (by omega) (by omega) (A.o _ (by omega)) g i m p);clear g i m p a4 a5;go_wp2;exact XG (v:=agg #[int i64 q,string n,int i64 (bb s C),int i64 (bN s C)]) (by simp[results,results204,go_sem,K,L,O,P]) rfl
    ⟨by rw[f.o,uH,hq.o],x,by rw[f.o];exact(a.o _ _ _ _).1,(a.o _ _ _ _).2,by
     rw[f.o];intro B
     exfalso
     simp only[j8]at B;cases f1
     ·simp at t B;exact t B
     ·simp at B⟩
  ·have bq:u1=0:=(by simp at t;exact t.1);have bk:f1=false:=(by simp at t;exact t.2);subst bq bk;cases U:dO X
   ·have b0:w4.cell? ⟨N,0,none⟩=some (pointer (some ⟨I,0,none⟩)):=J.D.preCell 0 (by simp[eZ]);rcases a7 with ag | ⟨j,hj,af⟩
    ·have f:Xq (pG (dn b H) b y l ⟨n,u,c⟩ v d=(((6,mn n s C),v,d),l)):=by
      show _=_;rw[G.o,z.o];simp[aQ,U,ag]
     clear G z;(go_upto_region 8 with (go_at_call 230;refine(fw X _ (by omega)).mono ?_;rintro e w5 ⟨rfl,rfl⟩));go_quiet ((go_at_call 49;exact XW (nK I zf b z6 X _ (J.Zbj (bH.drewN _)).TB)));have S:=J.Zbj (bH.drewN nq);rw[ag];obtain⟨K,L,O,P⟩:=dh J.F;have ar:=zcW J.F;have a:Xq _:=(fun g i m p=>lQ S.D S.M (F:=w.heap.size+1) (by omega) (by omega) (A.o _ (by omega)) g i m p);go_wp2;exact XG (v:=agg #[int i64 6,string n,int i64 (bb s C),int i64 (bN s C)]) (by simp[results,results204,go_sem,K,L,O,P]) rfl
      ⟨by rw[f.o];rfl,x,by rw[f.o];exact(a.o _ _ _ _).1,(a.o _ _ _ _).2,by rw[f.o];intro B;cases B⟩
    ·(go_upto_region 8 with (go_at_call 230;refine(fw X _ (by omega)).mono ?_;rintro e w5 ⟨rfl,rfl⟩));go_quiet ((go_at_call 49;exact XW (nK I zf b z6 X _ (J.Zbj (bH.drewN _)).TB)));rw[af];have S:=J.Zbj (bH.drewN nq);go_wp2_with fail;refine(wF o z1 n s _ hs aq.2.1 S.SC).mono ?_;rintro e w6 ⟨rfl,Z,bc⟩;rw[hr2]at Z ⊢;simp only[gJ]at Z ⊢;have S6:=S.next bc Z V bd ap ai;obtain⟨W7,ad⟩:∃W7,W7=w6.alloc (.cells #[string t2,int i64 u2,bool f2,string n,int i64 (bb s Q),int i64 (bN s Q)] 255):=⟨_,rfl⟩
     have az:Xq _:=ad.symm;have S7:vM w W7 N I zf o z2 b z6 v d x n s:=(by rw[ad];exact S6.Zbj (bH.alloc _));have I7:lE W7 w6.heap.size n s ⟨t2,u2,f2,Q⟩:=(by rw[ad];exact XD _ _);clear ad J S S6 Z bc I4 g i m p a4 a5 b0;(go_upto_region 12 with fail);rw[az.o];clear az;obtain⟨g,i,m,p,a4,a5⟩:=I7.cells;go_wp2_with fail;refine(dW t2 n u2 (bb s Q) (bN s Q) f2 _).mono ?_;rintro e w8 ⟨rfl,an⟩;have T:=S7.Zbj an;have I8:=I7.Zbw an (by simp);clear g i m p a4 a5 S7 I7 an;obtain⟨g,i,m,p,a4,a5⟩:=I8.cells;have aS:=ah T.F;have al:¬((j:Int)<0):=by omega
     cases E:(u2==0 && !f2)
     ·have f:Xq (pG (dn b H) b y l ⟨n,u,c⟩ v d=((j8 n s ⟨t2,u2,f2,Q⟩,v,d),l)):=by
       show _=_;rw[G.o,z.o,af];simp[aQ,U,E,al]
      clear G z;go_wp2_with fail;refine(pN t2 n u2 (bb s Q) (bN s Q) f2 _).mono ?_;rintro e w9 ⟨rfl,bo⟩;obtain⟨q,hq⟩:∃q:Int,Xq ((if f2=true then(7:Int) else u2)=q):=⟨_,rfl⟩
      rw[hq.o];have S9:=T.Zbj bo;obtain⟨K,L,O,P⟩:=dh S9.F;have ar:=zcW S9.F;have a:Xq _:=(fun g i m p=>lQ S9.D S9.M (F:=w.heap.size+1) (by omega) (by omega) (A.o _ (by omega)) g i m p);clear g i m p a4 a5;go_wp2;exact XG (v:=agg #[int i64 q,string n,int i64 (bb s Q),int i64 (bN s Q)]) (by simp[results,results204,go_sem,K,L,O,P]) rfl
       ⟨by rw[f.o,uH,hq.o],x,by rw[f.o];exact(a.o _ _ _ _).1,(a.o _ _ _ _).2,by
        rw[f.o];intro B
        exfalso
        simp only[j8]at B;cases f2
        ·simp at E B;exact E B
        ·simp at B⟩
     ·have br:u2=0:=(by simp at E;exact E.1);have bl:f2=false:=(by simp at E;exact E.2);subst br bl;cases a6:(t2.toList == [36,93])
      ·have f:Xq (pG (dn b H) b y l ⟨n,u,c⟩ v d=(((5,mn n s Q),v,d),l)):=by
        show _=_;rw[G.o,z.o,af];simp[aQ,U,a6,al]
       clear G z;obtain⟨K,L,O,P⟩:=dh T.F;have ar:=zcW T.F;have a:Xq _:=(fun g i m p=>lQ T.D T.M (F:=w.heap.size+1) (by omega) (by omega) (A.o _ (by omega)) g i m p);go_wp2;exact XG (v:=agg #[int i64 5,string n,int i64 (bb s Q),int i64 (bN s Q)]) (by simp[results,results204,go_sem,K,L,O,P]) rfl
        ⟨by rw[f.o];rfl,x,by rw[f.o];exact(a.o _ _ _ _).1,(a.o _ _ _ _).2,by rw[f.o];intro B;cases B⟩
      ·have f:Xq (pG (dn b H) b y l ⟨n,u,c⟩ v d=(dn b H j v d,z2)):=by
        show _=_;rw[G.o,z.o,af];simp[aQ,U,a6,al]
       clear G z;have RJ:=RF.o j w8 hj T.D T.TB;unfold lj at RJ;have av:Xq _:=RJ;clear RJ RF;generalize dn b H j v d=R at *;obtain⟨⟨r,pf,pl,pc⟩,bx,d'⟩:=R;simp only[jh]at av;go_wp2_with fail;refine Xx av.o ?_;rintro e w9 ⟨rfl,H9,D9,T9⟩;have F9:=T9.1.get T.F (by rintro (e | e);omega;exact A.o _ (by omega) e);have bj:cM w9 o n s z2:=T9.1.get T.SC (by rintro (e | e);exact V e;exact ap e);obtain⟨K,L,O,P⟩:=dh F9;have ar:=zcW F9;have a:Xq _:=(fun g i m p=>lQ D9 (T.M.trans (T9.Zbo o)) (F:=w.heap.size+1) (by omega) (by omega) (T9.fresh _ aS (A.o _ (by omega))) g i m p);have bf:Xq _:=(fun g i m p=>bj.Zbw (kJ (r:=w.heap.size+1) g i m p) (by simp;omega));clear g i m p a4 a5;go_wp2;exact XG (v:=agg #[int i64 r,string pf,int i64 pl,int i64 pc]) (by simp[results,results204,go_sem,K,L,O,P]) rfl
        ⟨by rw[f.o];rfl,H9,by rw[f.o];exact(a.o _ _ _ _).1,(a.o _ _ _ _).2,by rw[f.o];exact fun _=>bf.o _ _ _ _⟩
   ·have f:Xq (pG (dn b H) b y l ⟨n,u,c⟩ v d=(((5,mn n s C),v,d),l)):=by
     show _=_;rw[G.o,z.o];simp[aQ,U]
    clear G z;obtain⟨K,L,O,P⟩:=dh J.F;have ar:=zcW J.F;have a:Xq _:=(fun g i m p=>lQ J.D J.M (F:=w.heap.size+1) (by omega) (by omega) (A.o _ (by omega)) g i m p);go_wp2_with (go_at_call 230;refine(fw X _ (by omega)).mono ?_;rintro e w5 ⟨rfl,rfl⟩);exact XG (v:=agg #[int i64 5,string n,int i64 (bb s C),int i64 (bN s C)]) (by simp[results,results204,go_sem,K,L,O,P]) rfl
     ⟨by rw[f.o];rfl,x,by rw[f.o];exact(a.o _ _ _ _).1,(a.o _ _ _ _).2,by rw[f.o];intro B;cases B⟩
 ·have f:Xq (pG (dn b H) b y l ⟨n,u,c⟩ v d=(((4,⟨n,u,c⟩),v,d),l)):=by
   show _=_;rw[G.o,z.o,ho];simp
  clear G z;obtain⟨i0,i1,i2⟩:=zT hP;obtain⟨K,L,O,P⟩:=dh hF;have ar:=zcW hF;have a:Xq _:=(fun g i m p=>lQ D MK.o (F:=w.heap.size+1) (by omega) (by omega) (A.o _ (by omega)) g i m p);go_enter func204,ntmps204;go_upto_region 1 with fail
  rw[HW.o];go_wp2_with fail;refine(wG N 200 5 (eZ I v) [] d x _ D (kN I v aT)).mono ?_;rintro e w1 ⟨rfl,t⟩;subst t;rw[ho];go_wp2;exact XG (v:=agg #[int i64 4,string n,int i64 u,int i64 c]) (by simp[results,results204,go_sem,K,L,O,P]) rfl
   ⟨by rw[f.o];rfl,x,by rw[f.o];exact(a.o _ _ _ _).1,(a.o _ _ _ _).2,by rw[f.o];intro B;cases B⟩
theorem E8(A:v.length=4)(d:Db)(f:Nat->Hd)(n s t:Xr)(a c:Int)(w:World)(h:a9 w N 200 (eZ I v) [] d f)(hn:aI b y=n)(V:ak b y=s)(hs:s.size<=1024)(hz:l<=s.size)(m:cM w o n s l)(ht:bO w I zf b z6)(g:o≠N)(Z:I≠o)(C:¬eG f o)(X:hZ d 10000000)(Y:t.size<=1073741824)(U:FE d 100000000)(RF:Xq (∀(j:Nat) (i:World),j<b.length->a9 i N 200 (eZ I v) [] d f->bO i I zf b z6->lj N I b H j v d f i)) :
  Calls prog 156 #[pointer (some ⟨N,0,none⟩),pointer (some ⟨o,0,none⟩),agg #[string t,int i64 0,bool false,string n,int i64 a,int i64 c]] w fun e i =>
   e=returned (jh (lA (dn b H) b y l t ⟨n,a,c⟩ v d).1.1)/\∃D,a9 i N 200 (eZ I (lA (dn b H) b y l t ⟨n,a,c⟩ v d).1.2.1) [] (lA (dn b H) b y l t ⟨n,a,c⟩ v d).1.2.2 D/\g7 N o w f i D /\
    (((lA (dn b H) b y l t ⟨n,a,c⟩ v d).1.1.1==0)=true->cM i o n s (lA (dn b H) b y l t ⟨n,a,c⟩ v d).2):=by
 cases T:(t.toList == [36,91])
 ·have E:lA (dn b H) b y l t ⟨n,a,c⟩ v d=((if((aY d t ⟨n,a,c⟩).1==0)=true then dJ else((aY d t ⟨n,a,c⟩).1,⟨n,a,c⟩),v,(aY d t ⟨n,a,c⟩).2),l):=by
   unfold lA;rw[T];simp
  rw[E];refine(xQ N 200 I v A d f _ t n a c w h X Y U T).mono ?_;rintro e i ⟨rfl,D,D',T'⟩;exact⟨rfl,D,D',T'.Zbo o,fun _=>T'.1.get m (by rintro (e | e);exact g e;exact C e)⟩
 ·have E:lA (dn b H) b y l t ⟨n,a,c⟩ v d=pG (dn b H) b y l ⟨n,a,c⟩ v d:=by
   unfold lA;rw[T];simp
  rw[E];obtain⟨W,z⟩:∃W,W=((w.alloc (.cells #[string t,int i64 0,bool false,string n,int i64 a,int i64 c] 255)).alloc (.cells #[int i64 0,string ⟨#[]⟩,int i64 0,int i64 0] 87)):=⟨_,rfl⟩
  have G:aa [] w W:=by rw[z];exact((aa.refl [] w).alloc _).alloc _
  have af:=h.lt;have ac:=ah m;have hI:W.heap[w.heap.size]?=some (.cells #[string t,int i64 0,bool false,string n,int i64 a,int i64 c] 255):=by
   rw[z];exact(bH.alloc _).get (XD _ _) (by simp)
  have hF:W.heap[w.heap.size+1]?=some (.cells bM 87):=by
   rw[z];have:=XD (w.alloc (.cells #[string t,int i64 0,bool false,string n,int i64 a,int i64 c] 255)) (.cells #[int i64 0,string ⟨#[]⟩,int i64 0,int i64 0] 87);simpa [bM] using this
  obtain⟨i0,-,-,i3,i4,i5⟩:=NP hI;have IC:=GN N I zf o H y l b z6 v A d f n s a c W (h.Zbj G) hn V hs hz (m.Zbw G (by simp)) (ht.Zbw G (by simp)) g Z C RF;have q:Xq _:=IC;have u:Xq (∀k,w.heap.size<=k->¬eG f k):=fun k hk hm=>by have:=h.inlt hm;omega
  have HW:Xq _:=z.symm;have Q:=ah hF;clear z IC RF E h;generalize pG (dn b H) b y l ⟨n,a,c⟩ v d=R at *;obtain⟨⟨⟨r,pf,pl,pc⟩,ad,d'⟩,z'⟩:=R;simp only[jh]at q ⊢;go_enter func156,ntmps156;go_upto_region 1 with fail
  rw[HW.o];go_wp2_with fail;refine Xx q.o ?_;rintro e w2 ⟨rfl,H2,D2,K,B⟩;have x:=K.1.get hF (by rintro (e | e | e);omega;omega;exact u.o _ (by omega) e);obtain⟨j0,j1,j2,j3⟩:=dh x;have ag:=zcW x;have p:Xq _:=(fun L M O P=>lQ D2 (K.first G) (F:=w.heap.size+1) (by omega) (by omega) (K.fresh _ Q (u.o _ (by omega))) L M O P);have J:Xq _:=(fun L M O P S=>(B S).Zbw (kJ (r:=w.heap.size+1) L M O P) (by simp;omega));clear B i0 i3 i4 i5;go_wp2;exact XG (v:=agg #[int i64 r,string pf,int i64 pl,int i64 pc]) (by simp[results,results156,go_sem,j0,j1,j2,j3]) rfl
   ⟨rfl,H2,(p.o _ _ _ _).1,(p.o _ _ _ _).2,fun S=>J.o _ _ _ _ S⟩
set_option maxRecDepth 512
theorem Hb :
  Calls prog 152 #[agg #[string y1,string z8]] D fun e a=>∃s,e=returned (pointer (some ⟨s,0,none⟩))/\D.heap.size<=s/\cM a s y1 z8 0/\aa [] D a:=by
 go_enter func152,ntmps152;go_wp2;go_ret;refine⟨D.heap.size+1,rfl,by omega,?_,((aa.refl _ _).alloc _).alloc _⟩;have:=XD (D.alloc (.cells #[string y1,string z8] 68)) (.cells #[string y1,string z8,int i64 0,int i64 1,int i64 1] 300);simpa [cM,oR,bb,bN] using this
theorem aw.beyond(a:aw T f S i L)(k:aa z4 i g)(d:∀x,x∈z4->f.heap.size<=x):aw T f S g L :=
 ⟨⟨k.os.trans a.1.os,k.tape.trans a.1.tape,k.output.trans a.1.output,XF a.1.size k.size,fun b c j=>by
  rw[<-a.1.block b c j];exact k.block b (XB c a.1.size) (fun e=>by have:=d b e;omega)⟩,a.2⟩
theorem aw.word(a:aw T f S i L)(M:g7 T d i L g y9)(l:f.heap.size<=d):aw T f S g y9:=by
 refine⟨⟨M.1.os.trans a.1.os,M.1.tape.trans a.1.tape,M.1.output.trans a.1.output,XF a.1.size M.1.size,?_⟩,?_⟩
 ·intro k b c;rw[<-a.1.block k b c];refine M.1.block k (XB b a.1.size) ?_;rintro (e | e | j)
  ·exact c (XQ e)
  ·omega
  ·rcases a.2 k j with h | h
   ·exact c (XK h)
   ·omega
 ·intro k b;rcases M.2 k b with h | h
  ·exact a.2 k h
  ·exact XK (XF a.1.size h)
theorem OU:(eZ l v).set (1+s) (bool true)=eZ l (v.set s true):=by
 unfold eZ;rw[Nat.add_comm 1 s,ZG,Zm]
theorem In(h:v.length=4)(a:s<4):(eZ l v)[1+s]?=some (bool (v.getD s true)):=by
 unfold eZ;rw[Nat.add_comm 1 s,Zj,Yi,Xw];rw[Xv (by omega)];rfl
set_option maxRecDepth 100000
theorem AZ(a:v.length=4)(d:Db)(c:Nat->Hd)(w:World)(i:l<4)(h:a9 w o 200 (eZ H v) [] d c)(e:v.getD l true=true):lj o H b y l v d c w:=by
 unfold lj dn;rw[XA e];have g:=h.lt;have f:=h.preCell (1+l) (by rw[kN H v a];omega);rw[In H v l a i,e]at f;go_enter func110,ntmps110;go_wp2;exact XG (v:=agg #[int i64 0,string ⟨#[]⟩,int i64 0,int i64 0]) (by simp[results,results110,go_sem]) rfl
  ⟨rfl,c,h.Zbj (bH.alloc _),(aw.refl _ _ _).Zbj (bH.alloc _)⟩
theorem Co(cb:∀j,j<b.length->(ak b j).size<=1024)(bo:H≠o)(IH:∀g,g<l->∀(j:Nat) (I:List Bool) (d:Db) (J:Nat->Hd) (w:World) (m:Nat),j<b.length->I.length=4->qo d m->m+fg b I<=9000000->fg b I<=g->a9 w o 200 (eZ H I) [] d J->bO w H y b c->¬eG J H->lj o H b g j I d J w)(j:Nat)(I:List Bool)(d:Db)(J:Nat->Hd)(w:World)(m:Nat)(hj:j<b.length)(ad:I.length=4)(hB:qo d m)(hm:m+fg b I<=9000000)(hf:fg b I<=l)(h:a9 w o 200 (eZ H I) [] d J)(ht:bO w H y b c)(bp:¬eG J H)(hb:I.getD j true=false):lj o H b l j I d J w:=by
 unfold lj dn;rw[Xz (by rw[hb];simp)];have cg:=ht.2;have hs:=cb j hj;have be:=AD b I j ad hb;obtain⟨n,hn⟩:∃n,aI b j=n:=⟨_,rfl⟩
 obtain⟨s,Z⟩:∃s,ak b j=s:=⟨_,rfl⟩
 rw[Z]at hs be;have cq:=h.lt;have b1:=h.free;have cy:=ht.lt;have c1:=h.preCell (1+j) (by rw[kN H I ad];omega);rw[In H I j ad (by omega),hb]at c1;have c0:=h.preCell 0 (by simp[eZ]);have bw:w.cell? ⟨o,0,none⟩=some (pointer (some ⟨H,0,none⟩)):=c0;clear c0;have P1:=h.pre (1+j) (by rw[kN H I ad];omega) (bool true);rw[OU]at P1;obtain⟨i,af⟩:∃i,I.set j true=i:=⟨_,rfl⟩
 have b3:i.length=4:=by rw[<-af];simpa using ad
 rw[af]at P1 be ⊢;clear af;obtain⟨W,hW⟩:∃W,W=(w.setCell ⟨o,1+j,none⟩ (bool true)).alloc (.cells #[int i64 0,string ⟨#[]⟩,int i64 0,int i64 0] 87):=⟨_,rfl⟩
 have D1:a9 W o 200 (eZ H i) [] d J:=by rw[hW];exact P1.1.Zbj (bH.alloc _)
 have T1:aw o w J W J:=by rw[hW];exact P1.2.Zbj (bH.alloc _)
 have F1:W.heap[w.heap.size]?=some (.cells bM 87):=by
  rw[hW];have:=XD (w.setCell ⟨o,1+j,none⟩ (bool true)) (.cells bM 87);simpa [World.setCell,bM] using this
 have a5:bO W H y b c:=⟨T1.1.get ht.1 (by rintro (e | e);exact bo e;exact bp e),ht.2⟩;have ao:Xq (∀k,w.heap.size<=k->¬eG J k):=fun k hk hm=>by have:=h.inlt hm;omega
 have HW:Xq _:=hW.symm;have br:Xq _:=IH;clear P1 hW IH;go_enter func110,ntmps110;go_wp2_with fail;rw[HW.o];clear HW c1 bw b1 ht h;refine(Rm H y j b c _ a5 hj).mono ?_;rintro e w2 ⟨rfl,Y⟩;rw[hn,Z];go_wp2_with fail;refine(Hb n s _).mono ?_;rintro e w3 ⟨sp,rfl,cv,h3,ag⟩;go_wp2_with fail;refine(wF sp 0 n s _ hs (by omega) h3).mono ?_;rintro e w4 ⟨rfl,h4,ai⟩;have co:=ah F1;have cz:=Y.size;have cj:w.heap.size<sp:=by omega
 have bm:sp≠o:=by omega
 have bq:H≠sp:=by omega
 have T4:aw o w J w4 J:=(((T1.Zbj Y).Zbj ag).beyond ai (by simp;omega));have F4:w4.heap[w.heap.size]?=some (.cells bM 87):=ai.get (ag.get (Y.get F1 (by simp)) (by simp)) (by simp;omega);have D4:a9 w4 o 200 (eZ H i) [] d J:=((D1.Zbj Y).Zbj ag).Zbw ai (by simp;omega) (by intro k hk;simp;rintro rfl;exact ao.o _ (by omega) hk);have a7:bO w4 H y b c:=((a5.Zbw Y (by simp)).Zbw ag (by simp)).Zbw ai (by simp;omega);have ch:=ah h4;clear D1 T1 F1 a5 Y ag ai h3;simp only[gJ];go_wp2
 go_loopg [7] s.size (fun gk _ wr=>∃(k g m1:Nat) (f:List Bool) (A:Db) (K:Nat->Hd),k<=s.size/\gk=s.size-k/\f.length=4/\qo A m1/\m1+(s.size-k)+fg b f<=9000000/\(s.size-k)+fg b f+1<=g/\g<=l /\
  Xq (bI b l j 0 i d=bI b g j k f A)/\cM wr sp n s (aF s k).2/\lE wr w4.heap.size n s (aF s k).1 /\
  wr.heap[w.heap.size]?=some (.cells bM 87)/\a9 wr o 200 (eZ H f) [] A K/\bO wr H y b c/\aw o w J wr K/\(¬eG K sp/\¬eG K w4.heap.size/\¬eG K w.heap.size/\¬eG K H))
 ·exact⟨0,l,m,i,d,J,by omega,by omega,b3,hB,by omega,by omega,Xy _,rfl,h4.Zbw (bH.alloc _) (by simp),XD _ _,(bH.alloc _).get F4 (by simp),D4.Zbj (bH.alloc _),a7.Zbw (bH.alloc _) (by simp),T4.Zbj (bH.alloc _),ao.o _ (by omega),ao.o _ (by omega),ao.o _ (by omega),bp⟩
 obtain⟨k,g,m1,f,A,K,hk,hg,am,aq,cu,cs,ct,hR,h5,hI,hF,D,TB,T,bf,bj,O,a4⟩:=hrel;obtain⟨M,rfl⟩:∃M,g=M+1:=⟨g-1,by omega⟩
 clear D4 T4 F4 a7 h4;have bk:=gU s k hk;have cf:=vp s k hs;have SK:=IQ b M (Ru b M).2 j k f A m1 (by rw[Z];exact hk) am aq;have L1:=CZ b M j k f A;have L2:=rr b M j k f A;have L3:=Es b M j k f A;have L4:=Ao b M j k f A;have ST:iy b M j k f A=lA (dn b M) b j (aF s k).2 (aF s k).1.text (mn n s (aF s k).1.pos) f A:=by unfold iy;rw[hn,Z]
 rw[Z]at SK L1 L2 L3 L4;rw[hn]at L4;rw[ST]at SK L1 L2;have L6:aQ (aF s k).1=false->(aF s k).1.ZbC=false->((aF s k).1.ZbG==0)=false:=lS;have V:Xq _:=SK;have R:Xq _:=L1;have S:Xq _:=L2;have U:Xq _:=L3;have L:Xq _:=L4;have ac:Xq _:=L6;clear SK L1 L2 L3 L4 L6 ST;generalize hrr:aF s k=r at *;obtain⟨⟨t,u,fi,p⟩,z⟩:=r;clear hrr;simp only at h5 hI bk cf V R S U L ac;obtain⟨q0,q1,q2,q3,q4,q5⟩:=hI.cells;have cx:=ah h5;cases hw:(u==0 && !fi)
 ·cases fi
  ·have P:Xq (bI b l j 0 i d=(j8 n s ⟨t,u,false,p⟩,f,A)):=hR.o.trans (L.o hw (by simp));have hu:(u==0)=false:=(by simpa using hw);clear R S U L ac V;go_wp2_with fail;refine(dW t n _ (bb s p) (bN s p) _ _).mono ?_;rintro e w5 ⟨rfl,a⟩;have x:=hI.Zbw a (by simp);have q:=a.get hF (by simp);have D5:=D.Zbj a;have T5:=T.Zbj a;clear q0 q1 q2 q3 q4 q5 hI h5 hF D T a TB;obtain⟨q0,q1,q2,q3,q4,q5⟩:=x.cells;go_wp2_with fail;refine(pN t n u (bb s p) (bN s p) _ _).mono ?_;rintro e w6 ⟨rfl,aS⟩;simp only[Bool.false_eq_true,if_false];have B:=aS.get q (by simp);have D6:=D5.Zbj aS;have T6:=T5.Zbj aS;have v:Xq _:=(fun a0 a1 a2 a3=>qC D6 T6 (F:=w.heap.size) (Xy _) (by omega) O a0 a1 a2 a3);obtain⟨z0,z1,z2,z3⟩:=dh B;have ck:=zcW B;go_wp2;exact XG (v:=agg #[int i64 u,string n,int i64 (bb s p),int i64 (bN s p)]) (by simp[results,results110,go_sem,z0,z1,z2,z3]) rfl
    ⟨by rw[P.o];rfl,K,by rw[P.o];exact(v.o _ _ _ _).1,(v.o _ _ _ _).2⟩
  ·cases ho:lU A
   ·have P:Xq (bI b l j 0 i d=(dJ,f,A)):=hR.o.trans (U.o hw rfl ho);clear R S U L ac V;go_wp2_with fail;refine(dW t n _ (bb s p) (bN s p) _ _).mono ?_;rintro e w5 ⟨rfl,a⟩;have x:=hI.Zbw a (by simp);have q:=a.get hF (by simp);have D5:=D.Zbj a;have T5:=T.Zbj a;clear q0 q1 q2 q3 q4 q5 hI h5 hF D T a TB;obtain⟨q0,q1,q2,q3,q4,q5⟩:=x.cells;go_wp2_with fail;refine(wG o 200 5 (eZ H f) [] A K _ D5 (kN H f am)).mono ?_;rintro e w6 ⟨rfl,a6⟩;subst a6;rw[ho];have v:Xq _:=(fun a0 a1 a2 a3=>qC D5 T5 (F:=w.heap.size) (Xy _) (by omega) O a0 a1 a2 a3);obtain⟨z0,z1,z2,z3⟩:=dh q;have ck:=zcW q;go_wp2;exact XG (v:=agg #[int i64 0,string ⟨#[]⟩,int i64 0,int i64 0]) (by simp[results,results110,go_sem,z0,z1,z2,z3]) rfl
     ⟨by rw[P.o];rfl,K,by rw[P.o];exact(v.o _ _ _ _).1,(v.o _ _ _ _).2⟩
   ·have P:Xq (bI b l j 0 i d=(j8 n s ⟨t,u,true,p⟩,f,A)):=hR.o.trans (L.o hw (by simp[ho]));clear R S U L ac V;go_wp2_with fail;refine(dW t n _ (bb s p) (bN s p) _ _).mono ?_;rintro e w5 ⟨rfl,a⟩;have x:=hI.Zbw a (by simp);have q:=a.get hF (by simp);have D5:=D.Zbj a;have T5:=T.Zbj a;clear q0 q1 q2 q3 q4 q5 hI h5 hF D T a TB;obtain⟨q0,q1,q2,q3,q4,q5⟩:=x.cells;go_wp2_with fail;refine(wG o 200 5 (eZ H f) [] A K _ D5 (kN H f am)).mono ?_;rintro e w6 ⟨rfl,a6⟩;subst a6;rw[ho];go_wp2_with fail;refine(pN t n u (bb s p) (bN s p) _ _).mono ?_;rintro e w7 ⟨rfl,aT⟩;simp only[if_true];have bc:=aT.get q (by simp);have D7:=D5.Zbj aT;have T7:=T5.Zbj aT;have v:Xq _:=(fun a0 a1 a2 a3=>qC D7 T7 (F:=w.heap.size) (Xy _) (by omega) O a0 a1 a2 a3);obtain⟨z0,z1,z2,z3⟩:=dh bc;have ck:=zcW bc;go_wp2;exact XG (v:=agg #[int i64 7,string n,int i64 (bb s p),int i64 (bN s p)]) (by simp[results,results110,go_sem,z0,z1,z2,z3]) rfl
     ⟨by rw[P.o];rfl,K,by rw[P.o];exact(v.o _ _ _ _).1,(v.o _ _ _ _).2⟩
 ·have hu:u=0:=by simp at hw;exact hw.1
  have b0:fi=false:=by simp at hw;exact hw.2
  subst hu b0;have ca:=aq.small (N:=10000000) (by omega);have bl:=(aq.small (N:=100000000) (by omega)).2;have RW:=fun(w':World) (h':a9 w' o 200 (eZ H f) [] A K) (b8:cM w' sp n s z) (cc:bO w' H y b c)=>E8 o H y sp M j z b c f am A K n s t (bb s p) (bN s p) w' h' hn Z hs bk.2.1 b8 cc bm bq bf ca.1 (by omega) bl
   (fun jj ww b2 bT cd=>br.o M (by omega) jj f A K ww m1 b2 am aq (by omega) (by omega) bT cd a4)
  have av:Xq _:=RW;have G:Xq _:=V.o hw;have C:Xq _:=R.o hw;have E:Xq _:=S.o hw;clear RW R S U L ac V;simp only[mn]at G C E;generalize lA (dn b M) b j z t ⟨n,bb s p,bN s p⟩ f A=Q at *;obtain⟨⟨⟨r,pf,pl,pc⟩,ax,d2⟩,z2⟩:=Q;simp only[jh]at G C E av;have an:=G.o.2;obtain⟨bd,b5,m2,ba,b4⟩:=G.o.1;simp only at bd b5 ba b4 an;clear G;cases hr:(r==0)
  ·have b6:(r != 0)=true:=(by simp[bne,hr]);have P:Xq (bI b l j 0 i d=((r,⟨pf,pl,pc⟩),ax,d2)):=hR.o.trans (E.o hr);clear C E;go_wp2_with fail;refine(dW t n _ (bb s p) (bN s p) _ _).mono ?_;rintro e w5 ⟨rfl,a⟩;have x:=hI.Zbw a (by simp);have ap:=h5.Zbw a (by simp);have q:=a.get hF (by simp);have D5:=D.Zbj a;have T5:=T.Zbj a;have X:=TB.Zbw a (by simp);clear q0 q1 q2 q3 q4 q5 hI h5 hF D T TB a;obtain⟨q0,q1,q2,q3,q4,q5⟩:=x.cells;go_wp2_with fail;refine(av.o _ D5 ap X).mono ?_;rintro e w6 ⟨rfl,H2,D6,M6,-⟩;have B:=M6.1.get q (by rintro (e | e | e);omega;omega;exact O e);have m3:=M6.fresh w.heap.size (ah q) O;have T7:=T5.word M6 (by omega);have ar:=ah B;have y6:=zcW B;obtain⟨z0,z1,z2,z3⟩:=dh B;have v:Xq _:=(fun a0 a1 a2 a3=>qC D6 T7 (F:=w.heap.size) (Xy _) (by omega) m3 a0 a1 a2 a3);clear q0 q1 q2 q3 q4 q5;go_wp2;exact XG (v:=agg #[int i64 r,string pf,int i64 pl,int i64 pc]) (by simp[results,results110,go_sem,ar,z0,z1,z2,z3]) rfl
    ⟨by rw[P.o];rfl,H2,by rw[P.o];exact(v.o _ _ _ _).1.Zbj (bH.alloc _),((v.o _ _ _ _).2.Zbj (bH.alloc _))⟩
  ·have b6:(r != 0)=false:=(by simp[bne,hr]);have P:Xq (bI b l j 0 i d=bI b M j z2 ax d2):=hR.o.trans (C.o hr);clear C E;go_wp2_with fail;refine(dW t n _ (bb s p) (bN s p) _ _).mono ?_;rintro e w5 ⟨rfl,a⟩;have x:=hI.Zbw a (by simp);have ap:=h5.Zbw a (by simp);have q:=a.get hF (by simp);have D5:=D.Zbj a;have T5:=T.Zbj a;have X:=TB.Zbw a (by simp);clear q0 q1 q2 q3 q4 q5 hI h5 hF D T TB a;obtain⟨q0,q1,q2,q3,q4,q5⟩:=x.cells;go_wp2_with fail;refine(av.o _ D5 ap X).mono ?_;rintro e w6 ⟨rfl,H2,D6,M6,b7⟩;have h6:=b7 hr;have B:=M6.1.get q (by rintro (e | e | e);omega;omega;exact O e);have bz:lE w6 w4.heap.size n s ⟨t,0,false,p⟩:=M6.1.get x (by rintro (e | e | e);omega;omega;exact bj e);have bs:bO w6 H y b c:=⟨M6.1.get X.1 (by rintro (e | e | e);exact bo e;exact bq e;exact a4 e),X.2⟩;have e1:=M6.fresh sp (ah ap) bf;have e2:=M6.fresh w4.heap.size (ah x) bj;have e3:=M6.fresh w.heap.size (ah q) O;have e4:=M6.fresh H X.lt a4;have T7:=T5.word M6 (by omega);have ar:=ah B;have cl:=ah h6;go_wp2_with fail;refine(wF sp z2 n s _ hs an.2 (by exact h6.Zbw (bH.alloc _) (by simp))).mono ?_;rintro e w8 ⟨rfl,h8,al⟩;have az:=(bz.Zbw (bH.alloc _) (by simp)).Zbw al (by simp;omega);have bx:=al.get ((bH.alloc _).get B (by simp)) (by simp;omega);have D8:=(D6.Zbj (bH.alloc _)).Zbw al (by simp;omega) (by intro k hk;simp;rintro rfl;exact e1 hk);have bv:=(bs.Zbw (bH.alloc _) (by simp)).Zbw al (by simp;omega);have T8:=(T7.Zbj (bH.alloc _)).beyond al (by simp;omega);have yy:=zcW az;clear q0 q1 q2 q3 q4 q5;obtain⟨q0,q1,q2,q3,q4,q5⟩:=az.cells;simp only[gJ];go_wp2;go_roundg (s.size-z2)
   ·exact⟨z2,M,m2,ax,d2,H2,an.2,rfl,bd,ba,by omega,by omega,by omega,P.o,jf h8 (by omega) _ _ _ _ _ _,sV az _,xU bx (by omega) _ _ _ _ _ _,
     D8.Zbw (Lb _ _ _ _ _ _) (by simp;omega) (by intro k hk;simp;rintro rfl;exact e2 hk),bv.Zbw (Lb _ _ _ _ _ _) (by simp;omega),T8.beyond (Lb _ _ _ _ _ _) (by simp;omega),e1,e2,e3,e4⟩
   omega
theorem E7(i:∀j,j<b.length->(ak b j).size<=1024)(k:y≠H)(f:Nat):∀(j:Nat) (a:List Bool) (d:Db) (e:Nat->Hd) (w:World) (m:Nat),j<b.length->a.length=4->qo d m->m+fg b a<=9000000->fg b a<=f->a9 w H 200 (eZ y a) [] d e->bO w y l b c->¬eG e y->lj H y b f j a d e w:=by
 induction f using Nat.strongRecOn with
 | _ f IH =>
  intro j a d e w m s g q t r h p n;cases o:a.getD j true with
  | true=>exact AZ H y f j b a g d e w (by have:=p.2;omega) h o
  | false=>exact Co H y l f b c i k IH j a d e w m s g q t r h p n o
structure iY(w:World)(l:List St)(H:Nat->Hd):Prop where
  ZbH:aD w (H 6) (jY l H)
  syms:∀i s,l[i]?=some s->aD w (H (10+2*i)) (aE s.Zbe)
  prfs:∀i s,l[i]?=some s->aD w (H (11+2*i)) (jd s.Zbp)
theorem a9.record(h:a9 f T d m zt t S):iY f t.Zbv S:=by
  refine⟨h.ZbH 6,fun i s a=>?_,fun i s a=>?_⟩
  · have:=h.ZbH (10+2*i)
    rw[show 10+2*i=2*i+10 by omega]at this ⊢;have e:bi t S (2*i+10)=aE s.Zbe:=by simp[bi,inner,symsAt,a]
    rw[e]at this;exact this
  · have:=h.ZbH (11+2*i)
    rw[show 11+2*i=(2*i+1)+10 by omega]at this ⊢;have q:(2*i+1) % 2=1:=by omega
    have b:(2*i+1) / 2=i:=(by omega);have e:bi t S ((2*i+1)+10)=jd s.Zbp:=(by simp[bi,inner,wL,q,b,a]);rw[e]at this;exact this
theorem iY.keptP{P:Nat->Prop}(h:iY f M S)(k:fB P f i)(d:∀x,eG S x->¬P x):iY i M S :=
  ⟨h.ZbH.Zbo (fun x a=>k.block x (h.ZbH.lt a) (d x ⟨6,a⟩)),fun c s b=>(h.syms c s b).Zbo (fun x a=>k.block x ((h.syms c s b).lt a) (d x ⟨_,a⟩)),fun c s b=>(h.prfs c s b).Zbo (fun x a=>k.block x ((h.prfs c s b).lt a) (d x ⟨_,a⟩))⟩
theorem iY.Zbw(h:iY f M S)(k:aa z4 f i)(a:∀x,eG S x->x∉z4):iY i M S :=
  h.keptP (k.toP (P:=(·∈z4)) (fun _ b _=>b)) a
theorem iY.Zbj(h:iY f M S)(k:aa [] f i):iY i M S:=h.Zbw k (by simp)
def pg:Nat->Hd:=fun _=>⟨none,0⟩
theorem xK:¬eG pg s:=by rintro ⟨i,h⟩;simp[pg,Hd.Zbx]at h
def Mf:List Bool:=[false,false,false,false]
theorem a9.begin(h:f.heap[T]?=some (.cells (m++(da gF pg++[])).toArray d)):a9 f T d m [] gF pg:=by
  refine⟨h,?_,fun i j _=>XQ rfl,fun i e=>by simp[pg,Hd.Zbx]at e⟩;intro i
  match i with
  | 0=>exact XE _ _ _ _
  | 1=>exact XE _ _ _ _
  | 2=>exact XE _ _ _ _
  | 3=>exact XE _ _ _ _
  | 4=>exact XE _ _ _ _
  | 5=>exact XE _ _ _ _
  | 6=>exact XE _ _ _ _
  | 7=>exact XE _ _ _ _
  | 8=>exact XE _ _ _ _
  | 9=>exact XE _ _ _ _
  | n+10 =>
    have e:bi gF pg (n+10)=if n % 2=0 then aE [] else jd []:=(by simp[bi,inner,gF,symsAt,wL]);rw[e];split
    · exact XE _ _ _ _
    · exact XE _ _ _ _
set_option maxRecDepth 512
theorem KO(d:Db)(a:Nat->Hd)(w:World)(h:a9 w H y z6 c d a)(j:z6.length=l) :
    Calls prog 111 #[pointer (some ⟨H,l,none⟩)] w fun e t=>e=returned (agg #[slice (a 6).ao d.Zbv.length (a 6).cap,slice (a 7).ao d.rbl.length (a 7).cap])/\aa [] w t:=by
  obtain⟨k,m,n,o,p,q,u,x,r,s,b,f,g⟩:=h.cells l j;clear k m n o p q r s b f g;have i:=h.lt;go_enter func111,ntmps111;go_wp2;exact XG (v:=agg #[slice (a 6).ao d.Zbv.length (a 6).cap,slice (a 7).ao d.rbl.length (a 7).cap]) (by simp[results,results111,go_sem]) rfl ⟨rfl,(aa.refl _ _).alloc _⟩
theorem EL(a:∀j,j<b.length->(ak b j).size<=1024)(c:List Bool):fg b c<=4104:=by
  have h:∀j,UC b c j<=1026:=by
    intro j;unfold UC;split
    · omega
    · rcases Zao j b.length with h | h
      · have:=a j h;omega
      · have:(ak b j).size=0:=by unfold ak;rw[Xw,Yb h];rfl
        omega
  have d:=h 0;have e:=h 1;have f:=h 2;have g:=h 3;unfold fg;omega
theorem ED(h:aa z4 f i)(b:T∈z4∨f.heap.size<=T)(a:d∈z4∨f.heap.size<=d)(c e g j k l:Value) :
    aa z4 f ((((((i.setCell ⟨T,0,none⟩ c).setCell ⟨T,1,none⟩ e).setCell ⟨d,0,none⟩ g).setCell ⟨d,1,none⟩ j).setCell ⟨d,2,none⟩ k).setCell ⟨d,3,none⟩ l) :=
  (((((h.setCell b _).setCell b _).setCell a _).setCell a _).setCell a _).setCell a _
def cK(fs:Fs)(root:Nat):LV:=dn fs 5000 root Mf gF
set_option maxRecDepth 100000
theorem Tb(Y:bO D H y b c)(P:l<b.length)(p:∀j,j<b.length->(ak b j).size<=1024) :
    Calls prog 78 #[pointer (some ⟨H,0,none⟩),int i64 l] D fun e Z =>
      (if((cK b l).1.1==0)=true then ∃q,e=returned (tuple #[agg #[slice (q 6).ao (cK b l).2.2.Zbv.length (q 6).cap,slice (q 7).ao (cK b l).2.2.rbl.length (q 7).cap],jh dJ])/\iY Z (cK b l).2.2.Zbv q/\(∀k,eG q k->D.heap.size<=k)
       else e=returned (tuple #[agg #[slice none 0 0,slice none 0 0],jh (cK b l).1]))/\aa [] D Z:=by
  have ac:=Y.lt
  obtain⟨W,s⟩:∃W,W=((D.alloc (.cells #[slice none 0 0,slice none 0 0] 76)).alloc (.cells #[int i64 0,string ⟨#[]⟩,int i64 0,int i64 0] 87)).alloc (.cells #[pointer (some ⟨H,0,none⟩),bool false,bool false,bool false,bool false,
    slice none 0 0,slice none 0 0,slice none 0 0,slice none 0 0,slice none 0 0,slice none 0 0,slice none 0 0,slice none 0 0,int i64 0,string ⟨#[]⟩,slice none 0 0,bool false,slice none 0 0] 200):=⟨_,rfl⟩
  have m:aa [] D W:=by rw[s];exact((bH.alloc _).alloc _).alloc _
  have hA:W.heap[D.heap.size]?=some (.cells #[slice none 0 0,slice none 0 0] 76):=by
    rw[s];exact((bH.alloc _).alloc _).get (XD _ _) (by simp)
  have hF:W.heap[D.heap.size+1]?=some (.cells bM 87):=by
    rw[s];have e:(D.alloc (.cells #[slice none 0 0,slice none 0 0] 76)).heap.size=D.heap.size+1:=by simp
    rw[<-e];exact(bH.alloc _).get (XD _ _) (by simp)
  have V:a9 W (D.heap.size+2) 200 (eZ H Mf) [] gF pg:=by
    refine a9.begin ?_;rw[s];have e:((D.alloc (.cells #[slice none 0 0,slice none 0 0] 76)).alloc (.cells #[int i64 0,string ⟨#[]⟩,int i64 0,int i64 0] 87)).heap.size=D.heap.size+2:=by simp
    rw[<-e];exact XD _ _
  have hT:bO W H y b c:=Y.Zbw m (by simp);have HW:Xq _:=s.symm;have O:=E7 (D.heap.size+2) H y b c p (by omega) 5000 l Mf gF pg W 0 P rfl qo.empty (by have:=EL b p Mf;omega) (by have:=EL b p Mf;omega) V hT (xK _);unfold lj at O;have u:Xq _:=O;clear s O;have t:Xq ((dn b 5000 l Mf gF).2.1.length=4):=((Ru b 5000).2 l Mf gF 0 rfl qo.empty).1;have T:Xq (cK b l=dn b 5000 l Mf gF):=rfl;rw[T.o];clear T;generalize dn b 5000 l Mf gF=R at *;obtain⟨⟨r,pf,pl,pc⟩,v,F⟩:=R;simp only[jh]at u t ⊢;go_enter func78,ntmps78;go_upto_region 2 with fail
  rw[HW.o];go_wp2_with fail;refine Xx u.o ?_;rintro e w2 ⟨rfl,a,S,d⟩;have f:=d.1.get hA (by rintro (e | e);omega;exact xK _ e);have g:=d.1.get hF (by rintro (e | e);omega;exact xK _ e);have N:Xq (∀k,eG a k->D.heap.size<=k):=fun k n=>by
    rcases d.2 k n with h | h
    · exact absurd h (xK _)
    · have:=m.size;omega
  have M:Xq (∀k,eG a k->k≠D.heap.size/\k≠D.heap.size+1/\k≠D.heap.size+2):=fun k n=>by
    have ad:=V.lt;rcases d.2 k n with h | h
    · exact absurd h (xK _)
    · omega
  have U:Xq (aa [] D w2):=⟨d.1.os.trans m.os,d.1.tape.trans m.tape,d.1.output.trans m.output,XF m.size d.1.size,fun k n _=>(d.1.block k (XB n m.size) (by rintro (e | e);omega;exact xK _ e)).trans (m.block k n (by simp))⟩;obtain⟨C,E⟩:=uY f;obtain⟨I,J,K,L⟩:=dh g;have ya:=zcW f;have yf:=zcW g;have w:=ah f;have z:=ah g;cases X:(r==0)
  · have Q:(r != 0)=true:=by simp[bne,X]
    go_wp2_with fail;go_region
    all_goals go_wp2
    all_goals exact XG (v:=tuple #[agg #[slice none 0 0,slice none 0 0],agg #[int i64 r,string pf,int i64 pl,int i64 pc]]) (by simp[results,results78,go_sem,C,E,I,J,K,L,w,z]) rfl ⟨rfl,((ED U.o (XK (Xy _)) (XK (ZU _)) _ _ _ _ _ _).alloc _).drew⟩
  · have Q:(r != 0)=false:=by simp[bne,X]
    go_wp2_with fail;refine(KO (D.heap.size+2) 200 5 (eZ H v) [] F a _ (by exact S.Zbj (bH.alloc _)) (kN H v t.o)).mono ?_;rintro e G ⟨rfl,B⟩;have i:aa [] w2 G:=(bH.alloc _).trans B;have x:=i.get f (by simp);have A:=i.get g (by simp);have K4:Xq (aa [] D G):=U.o.trans i;have S4:Xq (iY G F.Zbv a):=S.record.Zbj i;clear C E I J K L ya yf B;obtain⟨C,E⟩:=uY x;obtain⟨I,J,K,L⟩:=dh A;have ya:=zcW x;have yf:=zcW A;go_wp2;exact XG (v:=tuple #[agg #[slice (a 6).ao F.Zbv.length (a 6).cap,slice (a 7).ao F.rbl.length (a 7).cap],agg #[int i64 0,string ⟨#[]⟩,int i64 0,int i64 0]]) (by simp[results,results78,go_sem,C,E,I,J,K,L]) rfl
      ⟨⟨a,rfl,S4.o.Zbw (ED (aa.refl [D.heap.size,D.heap.size+1] G) (XQ (by simp)) (XQ (by simp)) _ _ _ _ _ _) (fun k n=>by have:=M.o k n;simp;omega),N.o⟩,
        ED K4.o (XK (Xy _)) (XK (ZU _)) _ _ _ _ _ _⟩
structure dQ(w:World)(b o:Nat)(l:List St)(H:Nat->Hd):Prop where
 cell:∃arr t,w.heap[b]?=some (.cells arr t)/\arr[o]?=some (slice (H 6).ao l.length (H 6).cap)
 Zbv:iY w l H
theorem dQ.at(h:dQ f T d M S):f.cell? ⟨T,d,none⟩=some (slice (S 6).ao M.length (S 6).cap):=by
 obtain⟨a,t,b,c⟩:=h.cell;rw[ab b];exact c
theorem dQ.lt(h:dQ f T d M S):T<f.heap.size:=by
 obtain⟨a,t,b,c⟩:=h.cell;exact ah b
theorem dQ.Zbw(h:dQ f T d M S)(k:aa z4 f i)(g:T∉z4)(e:∀x,eG S x->x∉z4):dQ i T d M S:=by
 obtain⟨a,t,b,c⟩:=h.cell;exact⟨⟨a,t,k.get b g,c⟩,h.Zbv.Zbw k e⟩
theorem dQ.Zbj(h:dQ f T d M S)(k:aa [] f i):dQ i T d M S:=h.Zbw k (by simp) (by simp)
theorem iY.stmt(h:iY f M S)(n:Nat)(l:n<M.length) :
  ∃g,(S 6).ao=some ⟨g,0,none⟩/\M.length<=(S 6).cap/\(S 6).cap<=9223372036854775807/\f.cell? ⟨g,n*8,none⟩=some (int i64 M[n].Zby)/\f.cell? ⟨g,n*8+1,none⟩=some (string M[n].Zbz)/\f.cell? ⟨g,n*8+2,none⟩=some (slice (S (10+2*n)).ao M[n].Zbe.length (S (10+2*n)).cap) /\
  f.cell? ⟨g,n*8+3,none⟩=some (slice (S (11+2*n)).ao M[n].Zbp.length (S (11+2*n)).cap)/\f.cell? ⟨g,n*8+4,none⟩=some (string M[n].ZbC.ZbD)/\f.cell? ⟨g,n*8+5,none⟩=some (int i64 M[n].ZbC.ZbE) /\
  f.cell? ⟨g,n*8+6,none⟩=some (int i64 M[n].ZbC.ZbF)/\f.cell? ⟨g,n*8+7,none⟩=some (int i64 M[n].til):=by
 rcases h.ZbH.Zbu with ⟨_,i,_⟩ | ⟨g,d,a,o,e,b,-⟩
 ·have:M.length=0:=i;omega
 ·have c:=fun j (k:j<8) v (m:(PC M[n] (S (10+2*n)) (S (11+2*n)))[j]?=some v)=>h.ZbH.cell a (n*8+j) v ((Nd M S n l j k).trans m);exact⟨g,a,e,by unfold maxLen at b;exact b,c 0 (by omega) _ rfl,c 1 (by omega) _ rfl,c 2 (by omega) _ rfl,c 3 (by omega) _ rfl,c 4 (by omega) _ rfl,c 5 (by omega) _ rfl,c 6 (by omega) _ rfl,c 7 (by omega) _ rfl⟩
set_option maxRecDepth 512
theorem fn(h:dQ D y l k z5) :
  Calls prog 79 #[pointer (some ⟨y,l,none⟩)] D fun e a=>e=returned (int i64 k.length)/\a=D:=by
 have c:=h.at;go_enter func79,ntmps79;go_wp2;go_ret;exact⟨rfl,rfl⟩
def du(s:St)(a b:Hd):Value :=
 agg #[int i64 s.Zby,string s.Zbz,slice a.ao s.Zbe.length a.cap,slice b.ao s.Zbp.length b.cap,string s.ZbC.ZbD,int i64 s.ZbC.ZbE,int i64 s.ZbC.ZbF,int i64 s.til]
theorem bu(h:dQ D H y k z5)(f:l<k.length) :
  Calls prog 96 #[pointer (some ⟨H,y,none⟩),int i64 l] D fun e i=>e=returned (du k[l] (z5 (10+2*l)) (z5 (11+2*l)))/\aa [] D i:=by
 have c:=h.at;have b:=h.lt;obtain⟨g,a,t,u,j,m,n,o,p,q,r,s⟩:=h.Zbv.stmt l f;have d:=h.Zbv.ZbH.lt (k:=g) (by unfold Hd.Zbx;rw[a];rfl);rw[a]at c;unfold du;clear h;go_enter func96,ntmps96;go_wp2;exact XG (v:=agg #[int i64 k[l].Zby,string k[l].Zbz,slice (z5 (10+2*l)).ao k[l].Zbe.length (z5 (10+2*l)).cap,slice (z5 (11+2*l)).ao k[l].Zbp.length (z5 (11+2*l)).cap,string k[l].ZbC.ZbD,int i64 k[l].ZbC.ZbE,int i64 k[l].ZbC.ZbF,int i64 k[l].til])
  (by simp[results,results96,go_sem]) rfl ⟨rfl,(aa.refl _ _).alloc _⟩
def iI(l:List St)(n a:Nat):Bool:=match l[n]? with | some s=>decide (n<a)&&(s.til==0||decide (a<s.til)) | none=>false
theorem Vs(h:y2<k.length):iI k y2 s=(decide (y2<s)&&(k[y2].til==0||decide (s<k[y2].til))):=by
 unfold iI;rw[Xv h]
theorem i8(h:dQ D o H k z5)(j:y<k.length) :
  Calls prog 186 #[pointer (some ⟨o,H,none⟩),int i64 y,int i64 l] D fun e w=>e=returned (bool (iI k y l))/\w=D:=by
 have c:=h.at;obtain⟨g,v,z,A,m,n,p,q,r,s,u,x⟩:=h.Zbv.stmt y j;clear m n p q r s u;rw[v]at c;have b:Xq _:=Vs k y l j;generalize k[y].til=t at *;clear h;by_cases f:y<l
 ·cases i:((t:Int)==0)
  ·have a:(t==0)=false:=by cases t <;> simp at i ⊢
   have d:Xq (iI k y l=decide (l<t)):=cm (by rw[b.o,a];simp[f]);clear b;go_enter func186,ntmps186;go_wp2;go_ret;exact⟨aH (by rw[d.o]),rfl⟩
  ·have a:(t==0)=true:=by cases t <;> simp at i ⊢ <;> omega
   have d:Xq (iI k y l=true):=cm (by rw[b.o,a];simp[f]);clear b;go_enter func186,ntmps186;go_wp2;go_ret;exact⟨aH (by rw[d.o]),rfl⟩
 ·have d:Xq (iI k y l=false):=by show _=_;rw[b.o];simp[f]
  clear b;go_enter func186,ntmps186;go_wp2;go_ret;exact⟨aH (by rw[d.o]),rfl⟩
def qj(l:List St)(lab:Xr)(a n:Nat):Bool:=match l[n]? with | some s=>(s.Zbz.toList==lab.toList) && !(s.Zby==1)&&iI l n a | none=>false
def mV(l:List St)(lab:Xr)(a:Nat):Option Nat:=(List.range l.length).find? (qj l lab a)
def iu:Option Nat->Int
 | some n=>n
 | none=>-1
theorem Sk(h:s<k.length):qj k z8 y2 s=((k[s].Zbz.toList==z8.toList) && !(k[s].Zby==1)&&iI k s y2):=by
 unfold qj;rw[Xv h]
theorem jP(c:d<T)(e:y8 d=true)(a:∀i,i<d->y8 i=false):(List.range T).find? y8=some d :=
 Y3.2 ⟨e,by simpa using c,fun j b=>by simp[a j b]⟩
theorem jz(a:∀i,i<T->y8 i=false):(List.range T).find? y8=none :=
 YD.2 (fun i b=>by simp[a i (by simpa using b)])
theorem jK(h:dQ D H y k z5)(N:k.length<=1073741824) :
  Calls prog 184 #[pointer (some ⟨H,y,none⟩),string z7,int i64 l] D fun e E=>e=returned (int i64 (iu (mV k z7 l)))/\E=D:=by
 have c:=h.at;go_enter func184,ntmps184;go_wp2
 go_loopg [7] k.length (fun g i wr=>∃a:Nat,a<=k.length/\g=k.length-a/\i=int i64 a/\Xq (∀i,i<a->qj k z7 l i=false)/\wr=D)
 ·exact⟨0,by omega,by omega,rfl,fun i s=>by omega,rfl⟩
 obtain⟨a,M,L,rfl,b,rfl⟩:=hrel;by_cases d:a<k.length
 ·obtain⟨g,A,J,K,G,I,t,u,v,w,x,z⟩:=h.Zbv.stmt a d;clear t u v w x z;rw[A]at c;have j:Xq _:=Sk k z7 l a d;have p:Xq (dQ wr H y k z5):=h;generalize k[a].Zbz=C at *;generalize k[a].Zby=o at *;have next:Xq (qj k z7 l a=false->∀i,i<a+1->qj k z7 l i=false):=by
   intro B i s;by_cases e:i=a
   ·subst e;exact B
   ·exact b.o i (by omega)
  cases q:(C.toList==z7.toList)
  ·have f:Xq (qj k z7 l a=false):=(by show _=_;rw[j.o,q];simp);clear j h;go_wp2;go_roundg (k.length-(a+1))
   ·exact⟨a+1,by omega,rfl,by go_num,next.o f.o,rfl⟩
   omega
  ·cases m:(o==1)
   ·have n:(o != 1)=true:=(by simp[bne,m]);cases r:iI k a l
    ·have f:Xq (qj k z7 l a=false):=(by show _=_;rw[j.o,r];simp);clear j h;go_wp2_with (go_at_call 186;refine(i8 H y a l k z5 _ p.o d).mono ?_;rintro e F ⟨rfl,rfl⟩);go_roundg (k.length-(a+1))
     ·exact⟨a+1,by omega,rfl,by go_num,next.o f.o,rfl⟩
     omega
    ·have f:Xq (mV k z7 l=some a):=jP d (by rw[j.o,q,m,r];rfl) b.o;clear j h;go_wp2_with (go_at_call 186;refine(i8 H y a l k z5 _ p.o d).mono ?_;rintro e F ⟨rfl,rfl⟩);go_ret;exact⟨au (by rw[f.o];rfl),rfl⟩
   ·have n:(o != 1)=false:=(by simp[bne,m]);have f:Xq (qj k z7 l a=false):=cm (by rw[j.o,m];simp);clear j h;go_wp2;go_roundg (k.length-(a+1))
    ·exact⟨a+1,by omega,rfl,by go_num,next.o f.o,rfl⟩
    omega
 ·have f:Xq (mV k z7 l=none):=jz (fun i s=>b.o i (by omega));clear h;go_wp2;go_ret;exact⟨au (by rw[f.o];rfl),rfl⟩
end Go.Proofs.YtpdholcaobgofaaGreat
