import Derived.Deep.RegionHeld3
import Derived.BigQuiet
import Derived.Test.YtnbhnocdhbcbcaaGreatU05
namespace Go.Proofs.YtnbhnocdhbcbcaaGreat
open Go.RowKit Tryz
open Value IntKind Ending
set_option maxHeartbeats 0
variable{f i g:World}{T d y5 y2 yu:Nat}{m y1:List Value}{t:Db}{S L yr:Nat->Hd}{z4:Xv}{ys:Fs}{yt:List Bool}{y9 yd:Xs}{M:List St}{yg:Nat->Bool}(N I y0 o H x l:Nat)(b:Fs)(z6:List Value)(y:List Bool)(c:List Value)(z7:Xs)(k:List St)(z5:Nat->Hd)(y3 zt:Xs)(y7:Int)(D:World)(yv yz x0 x1:Value)(y4 s:Nat)
theorem ox(l c:Int)(f:Bool)(w:World) :
  Calls prog 160 #[agg #[string y3,int i64 y7,bool f,string zt,int i64 l,int i64 c]] w fun e a=>e=returned (agg #[int i64 (if f=true then 7 else y7),string zt,int i64 l,int i64 c])/\ae [] w a:=by
 cases f
 ·go_enter func160,ntmps160;go_wp2;exact Um (v:=agg #[int i64 y7,string zt,int i64 l,int i64 c]) (by simp[results,results160,go_sem]) rfl ⟨rfl,((ae.refl _ _).alloc _).alloc _⟩
 ·go_enter func160,ntmps160;go_wp2;exact Um (v:=agg #[int i64 7,string zt,int i64 l,int i64 c]) (by simp[results,results160,go_sem]) rfl ⟨rfl,((ae.refl _ _).alloc _).alloc _⟩
def eN(v:Nat)(bg:List Bool):List Value:=pointer (some ⟨v,0,none⟩) :: bg.map bool
theorem j4(h:y.length=4):(eN l y).length=5:=by simp[eN,h]
theorem aV.pre(h:aV f T d m y1 t S)(i:Nat)(b:i<m.length)(u:Value) :
  aV (f.setCell ⟨T,i,none⟩ u) T d (m.set i u) y1 t S/\aw T f S (f.setCell ⟨T,i,none⟩ u) S:=by
 refine⟨⟨?_,?_,h.apart,h.off⟩,(gy.refl _ _).setCell (Us (Us rfl)) _,fun _ a=>Us a⟩
 ·rw[ab h.Yv,U0,WL _ _ b]
 ·intro j;refine(h.YF j).Ym (fun k a=>Ut _ _ _ _ ?_);rintro rfl;exact h.off j a
theorem aV.preCell(h:aV f T d m y1 t S)(i:Nat)(a:i<m.length):f.cell? ⟨T,i,none⟩=m[i]?:=by
 rw[ah h.Yv];simp[List.getElem?_append_left a]
def gB(b sp:Nat)(w:World)(H:Nat->Hd)(w':World)(H':Nat->Hd):Prop :=
 gy (fun k=>k=b∨k=sp∨gF H k) w w'/\∀k,gF H' k->gF H k∨w.heap.size<=k
theorem aw.Ym{w':World}(t:aw T f S w' L):gB T s f S w' L :=
 ⟨⟨t.1.os,t.1.tape,t.1.output,t.1.size,fun k a b=>t.1.block k a (fun e=>b (e.elim Us (fun e=>Uo (Uo e))))⟩,t.2⟩
theorem gB.trans{w1:World}(a:gB T d f S w1 L)(c:gB T d w1 L i yr):gB T d f S i yr:=by
 refine⟨⟨c.1.os.trans a.1.os,c.1.tape.trans a.1.tape,c.1.output.trans a.1.output,Un a.1.size c.1.size,?_⟩,?_⟩
 ·intro k b g;rw[<-a.1.block k b g];refine c.1.block k (Ul b a.1.size) ?_;rintro (e | e | j)
  ·exact g (Us e)
  ·exact g (Uo (Us e))
  ·rcases a.2 k j with h | h
   ·exact g (Uo (Uo h))
   ·omega
 ·intro k b;rcases c.2 k b with h | h
  ·exact a.2 k h
  ·exact Uo (Un a.1.size h)
theorem gB.refl(H:Nat->Hd):gB x l D H D H:=⟨gy.refl _ _,fun _ a=>Us a⟩
theorem gB.Yh(a:gB T d f S i L)(c:ae [] i g):gB T d f S g L :=
 a.trans ⟨c.toP (by simp),fun _ b=>Us b⟩
theorem gB.first(c:ae [] f i)(a:gB T d i S g L):gB T d f S g L :=
 gB.trans ⟨c.toP (by simp),fun _ b=>Us b⟩ a
theorem gB.scan(a:gB T d f S i L)(c:ae [d] i g):gB T d f S g L :=
 a.trans ⟨c.toP (by intro k b _;simp at b;exact Uo (Us b)),fun _ b=>Us b⟩
theorem gB.beyond(a:gB T d f S i L)(k:ae z4 i g)(e:∀x,x∈z4->f.heap.size<=x):gB T d f S g L :=
 ⟨⟨k.os.trans a.1.os,k.tape.trans a.1.tape,k.output.trans a.1.output,Un a.1.size k.size,fun b c l=>by
  rw[<-a.1.block b c l];exact k.block b (Ul c a.1.size) (fun j=>by have:=e b j;omega)⟩,a.2⟩
theorem gB.fresh(a:gB T d f S i L)(F:Nat)(e:F<f.heap.size)(b:¬gF S F):¬gF L F:=by
 intro c;rcases a.2 F c with h | h
 ·exact b h
 ·omega
theorem aw.fresh(a:aw T f S i L)(F:Nat)(d:F<f.heap.size)(b:¬gF S F):¬gF L F:=by
 intro c;rcases a.2 F c with h | h
 ·exact b h
 ·omega
theorem jY{w:World}{r:Nat}:ae [r] w ((((w.setCell ⟨r,0,none⟩ yv).setCell ⟨r,1,none⟩ yz).setCell ⟨r,2,none⟩ x0).setCell ⟨r,3,none⟩ x1) :=
 ((((ae.refl _ _).sl1 _).sl1 _).sl1 _).sl1 _
theorem GJ(a b:Value):ae [T] f ((((((f.setCell ⟨T,0,none⟩ yv).setCell ⟨T,1,none⟩ yz).setCell ⟨T,2,none⟩ x0).setCell ⟨T,3,none⟩ x1).setCell ⟨T,4,none⟩ a).setCell ⟨T,5,none⟩ b) :=
 ((((((ae.refl _ _).sl1 _).sl1 _).sl1 _).sl1 _).sl1 _).sl1 _
def bH:Array Value:=#[int i64 0,string ⟨#[]⟩,int i64 0,int i64 0]
theorem cZ(h:f.heap[T]?=some (.cells bH 87)) :
  f.cell? ⟨T,0,none⟩=some (int i64 0)/\f.cell? ⟨T,1,none⟩=some (string ⟨#[]⟩)/\f.cell? ⟨T,2,none⟩=some (int i64 0)/\f.cell? ⟨T,3,none⟩=some (int i64 0):=by
 refine⟨?_,?_,?_,?_⟩ <;> (rw[ah h];rfl)
theorem pd{F:Nat}(D:aV i T d m y1 t L)(b:aw T f S i L)(a:f.heap.size<=F)(k:T≠F)(l:¬gF L F)(c e g j:Value) :
  aV ((((i.setCell ⟨F,0,none⟩ c).setCell ⟨F,1,none⟩ e).setCell ⟨F,2,none⟩ g).setCell ⟨F,3,none⟩ j) T d m y1 t L /\
  aw T f S ((((i.setCell ⟨F,0,none⟩ c).setCell ⟨F,1,none⟩ e).setCell ⟨F,2,none⟩ g).setCell ⟨F,3,none⟩ j) L:=by
 refine⟨D.Yu (jY _ _ _ _) (by simpa using k) (fun x n=>by simp;rintro rfl;exact l n),?_,b.2⟩;exact(((b.1.setCell (Uo a) _).setCell (Uo a) _).setCell (Uo a) _).setCell (Uo a) _
set_option maxRecDepth 100000
theorem vx(E:y.length=4)(d:Db)(q:Nat->Hd)(sp:Value)(j n:Xs)(i c:Int)(w:World)(h:aV w H x (eN l y) [] d q)(hs:gC d 10000000)(hx:j.size<=1073741824)(hi:CT d 100000000)(hn:(j.toList == [36,91])=false) :
  Calls prog 158 #[pointer (some ⟨H,0,none⟩),sp,agg #[string j,int i64 0,bool false,string n,int i64 i,int i64 c]] w fun e g =>
   e=returned (iz (if((aZ d j ⟨n,i,c⟩).1==0)=true then dh else((aZ d j ⟨n,i,c⟩).1,⟨n,i,c⟩))) /\
   ∃O,aV g H x (eN l y) [] (aZ d j ⟨n,i,c⟩).2 O/\aw H w q g O:=by
 have ac:=h.lt;have C:=fun(g:World) (h':aV g H x (eN l y) [] d q)=>OF H x 5 (eN l y) [] d q j n i c g h' (j4 l y E) hs hx hi;unfold i9 at C;have u:Xr _:=C;clear C;generalize aZ d j ⟨n,i,c⟩=td at *;obtain⟨r,d'⟩:=td;simp only at u;obtain⟨W,B⟩:∃W,W=((w.alloc (.cells #[string j,int i64 0,bool false,string n,int i64 i,int i64 c] 255)).alloc (.cells #[int i64 0,string ⟨#[]⟩,int i64 0,int i64 0] 87)):=⟨_,rfl⟩
 have S:ae [] w W:=by rw[B];exact((ae.refl [] w).alloc _).alloc _
 have P:aV W H x (eN l y) [] d q:=h.Yh S;have R:W.heap[w.heap.size]?=some (.cells #[string j,int i64 0,bool false,string n,int i64 i,int i64 c] 255):=by
  rw[B];exact(bM.alloc _).get (Ui _ _) (by simp)
 have Q:W.heap[w.heap.size+1]?=some (.cells bH 87):=by
  rw[B];have:=Ui (w.alloc (.cells #[string j,int i64 0,bool false,string n,int i64 i,int i64 c] 255)) (.cells #[int i64 0,string ⟨#[]⟩,int i64 0,int i64 0] 87);simpa [bH] using this
 have t:Xr (∀k,w.heap.size<=k->¬(k=H∨gF q k)):=by
  rintro k hk (e | G)
  ·omega
  ·have:=h.inlt G;omega
 have U:Xr _:=B.symm;clear B h;obtain⟨i0,-,-,i3,i4,i5⟩:=JX R
 have z:=(show Xr _ from fun(a:World) (b:Nat->Hd) (v:aV a H x (eN l y) [] d' b) (f:aw H W.drew q a b) (V X Y Z:Value) =>
  pd v ((f.first (ae.refl [] W).drew).first S) (F:=w.heap.size+1) (by omega) (by omega) (f.fresh (w.heap.size+1) (by exact aj Q) (fun G=>t.o (w.heap.size+1) (by omega) (Uo G))) V X Y Z)
 have s:Xr _:=fun(a:World) (b:Nat->Hd) (f:aw H W.drew q a b)=>(show _/\_ from⟨f.1.get (by exact R) (t.o _ (Ue _)),f.1.get (by exact Q) (t.o _ (by omega))⟩)
 have N:∀(a:World) (b:Nat->Hd) (_:aw H W.drew q a b),a.cell? ⟨w.heap.size,0,none⟩=some (string j)/\a.cell? ⟨w.heap.size,3,none⟩=some (string n)/\a.cell? ⟨w.heap.size,4,none⟩=some (int i64 i)/\a.cell? ⟨w.heap.size,5,none⟩=some (int i64 c):=by
  intro a b f;have D:=(s.o a b f).1;refine⟨?_,?_,?_,?_⟩ <;> (rw[ah D];rfl)
 have A:Xr _:=N;clear N;go_enter func158,ntmps158;go_upto_region 1 with fail
 rw[U.o];go_upto_region 3 with fail
 cases T:(r==0)
 ·have I:(r != 0)=true:=by simp[bne,T]
  go_region_held3 (fun g=>g.cell? ⟨w.heap.size,0,none⟩=some (string j)/\g.cell? ⟨w.heap.size,3,none⟩=some (string n)/\g.cell? ⟨w.heap.size,4,none⟩=some (int i64 i)/\g.cell? ⟨w.heap.size,5,none⟩=some (int i64 c)) (go_keep) (first | (go_at_call 207;refine(u.o _ (by exact P.Yh bM.drew)).mono ?_;rintro e a ⟨rfl,b,v,f⟩;obtain⟨r0,r3,r4,r5⟩:=A.o a b f))
  all_goals
   have p:=(s.o a b f).2;have m:Xr _:=z.o a b v f;obtain⟨J,K,L,M⟩:=cZ p;have ad:=am p;go_wp2;exact Um (v:=agg #[int i64 r,string n,int i64 i,int i64 c]) (by simp[results,results158,go_sem,J,K,L,M]) rfl
    ⟨rfl,b,(m.o _ _ _ _).1,(m.o _ _ _ _).2⟩
 ·have I:(r != 0)=false:=by simp[bne,T]
  go_region_held3 (fun g=>g.cell? ⟨w.heap.size,0,none⟩=some (string j)/\g.cell? ⟨w.heap.size,3,none⟩=some (string n)/\g.cell? ⟨w.heap.size,4,none⟩=some (int i64 i)/\g.cell? ⟨w.heap.size,5,none⟩=some (int i64 c)) (go_keep) (first | (go_at_call 207;refine(u.o _ (by exact P.Yh bM.drew)).mono ?_;rintro e a ⟨rfl,b,v,f⟩;obtain⟨r0,r3,r4,r5⟩:=A.o a b f))
  all_goals
   have p:=(s.o a b f).2;have m:Xr _:=z.o a b v f;obtain⟨J,K,L,M⟩:=cZ p;have ad:=am p;go_wp2;exact Um (v:=agg #[int i64 0,string ⟨#[]⟩,int i64 0,int i64 0]) (by simp[results,results158,go_sem,J,K,L,M]) rfl
    ⟨rfl,b,(m.o _ _ _ _).1,(m.o _ _ _ _).2⟩
def ko(b v:Nat)(fs:Fs)(f j:Nat)(bg:List Bool)(d:Db)(H:Nat->Hd)(w:World):Prop :=
 Calls prog 112 #[pointer (some ⟨b,0,none⟩),int i64 j] w fun e w'=>e=returned (iz (dd fs f j bg d).1)/\∃H',aV w' b 200 (eN v (dd fs f j bg d).2.1) [] (dd fs f j bg d).2.2 H'/\aw b w H w' H'
theorem kY{F:Nat}(D:aV i T d m y1 t L)(g:gB T y5 f S i L)(j:f.heap.size<=F)(k:T≠F)(l:¬gF L F)(a b c e:Value) :
  aV ((((i.setCell ⟨F,0,none⟩ a).setCell ⟨F,1,none⟩ b).setCell ⟨F,2,none⟩ c).setCell ⟨F,3,none⟩ e) T d m y1 t L /\
  gB T y5 f S ((((i.setCell ⟨F,0,none⟩ a).setCell ⟨F,1,none⟩ b).setCell ⟨F,2,none⟩ c).setCell ⟨F,3,none⟩ e) L :=
 ⟨D.Yu (jY _ _ _ _) (by simpa using k) (fun x n=>by simp;rintro rfl;exact l n),g.beyond (jY _ _ _ _) (by simpa using j)⟩
theorem ss(f:Bool)(p:Nat):iz (jB z7 y3 ⟨zt,y7,f,p⟩)=agg #[int i64 (if f=true then 7 else y7),string z7,int i64 (aX y3 p),int i64 (bK y3 p)]:=rfl
structure tD(w w':World)(b v tt sp z:Nat)(fs:Fs)(more:List Value)(bg:List Bool)(d:Db)(H:Nat->Hd)(n s:Xs):Prop where
 D:aV w' b 200 (eN v bg) [] d H
 TB:bO w' v tt fs more
 SC:cg w' sp n s z
 F:w'.heap[w.heap.size+1]?=some (.cells bH 87)
 M:gB b sp w H w' H
theorem tD.Yh(a:tD f i T d y5 y2 yu ys m yt t S y9 yd)(k:ae [] i g):tD f g T d y5 y2 yu ys m yt t S y9 yd :=
 ⟨a.D.Yh k,a.TB.Yu k (by simp),a.SC.Yu k (by simp),k.get a.F (by simp),a.M.Yh k⟩
theorem tD.next{b:Nat}(a:tD f i T d y5 y2 yu ys m yt t S y9 yd)(k:ae [y2] i g)(c:cg g y2 y9 yd b)(j:y2≠T)(l:d≠y2)(n:¬gF S y2)(p:y2<f.heap.size):tD f g T d y5 y2 b ys m yt t S y9 yd :=
 ⟨a.D.Yu k (by simpa using fun e=>j e.symm) (by intro x o;simp;rintro rfl;exact n o),a.TB.Yu k (by simpa using l),c,k.get a.F (by simp;omega),a.M.scan k⟩
theorem DJ(ba:y.length=4)(d:Db)(v:Nat->Hd)(n s:Xs)(u c:Int)(w:World)(h:aV w N 200 (eN I y) [] d v)(hn:aF b x=n)(bw:ak b x=s)(hs:s.size<=1024)(hz:l<=s.size)(ap:cg w o n s l)(ht:bO w I y0 b z6)(V:o≠N)(bj:I≠o)(ar:¬gF v o)(RF:Xr (∀(j:Nat) (w':World),j<b.length->aV w' N 200 (eN I y) [] d v->bO w' I y0 b z6->ko N I b H j y d v w')) :
  Calls prog 206 #[pointer (some ⟨N,0,none⟩),pointer (some ⟨o,0,none⟩),agg #[string n,int i64 u,int i64 c]] w fun e w' =>
   e=returned (iz (oo (dd b H) b x l ⟨n,u,c⟩ y d).1.1)/\∃H',aV w' N 200 (eN I (oo (dd b H) b x l ⟨n,u,c⟩ y d).1.2.1) [] (oo (dd b H) b x l ⟨n,u,c⟩ y d).1.2.2 H'/\gB N o w v w' H' /\
    (((oo (dd b H) b x l ⟨n,u,c⟩ y d).1.1.1==0)=true->cg w' o n s (oo (dd b H) b x l ⟨n,u,c⟩ y d).2):=by
 obtain⟨W,hW⟩:∃W,W=((w.alloc (.cells #[string n,int i64 u,int i64 c] 36)).alloc (.cells #[int i64 0,string ⟨#[]⟩,int i64 0,int i64 0] 87)):=⟨_,rfl⟩
 have hK:ae [] w W:=by rw[hW];exact((ae.refl [] w).alloc _).alloc _
 have b6:=h.lt;have ai:=aj ap;have D:aV W N 200 (eN I y) [] d v:=h.Yh hK;have SC:cg W o n s l:=ap.Yu hK (by simp);have TB:bO W I y0 b z6:=ht.Yu hK (by simp);have hP:W.heap[w.heap.size]?=some (.cells #[string n,int i64 u,int i64 c] 36):=by
  rw[hW];exact(bM.alloc _).get (Ui _ _) (by simp)
 have hF:W.heap[w.heap.size+1]?=some (.cells bH 87):=by
  rw[hW];have:=Ui (w.alloc (.cells #[string n,int i64 u,int i64 c] 36)) (.cells #[int i64 0,string ⟨#[]⟩,int i64 0,int i64 0] 87);simpa [bH] using this
 have A:Xr (∀k,w.heap.size<=k->¬gF v k):=fun k hk hm=>by have:=h.inlt hm;omega
 have HW:Xr _:=hW.symm;have b4:=aj hF;have MK:Xr (gB N o w v W v):=(gB.refl N o w v).Yh hK;clear hW h ap ht;have G:Xr (oo (dd b H) b x l ⟨n,u,c⟩ y d=match sR b x l ⟨n,u,c⟩ d with | .inl q=>((q,y,d),l) | .inr (j,z')=>(dd b H j y d,z')):=rfl;have z:Xr (sR b x l ⟨n,u,c⟩ d=_):=(show sR b x l ⟨n,u,c⟩ d=_ from by unfold sR;rw[hn,bw])
 cases ho:lT d
 ·have ax:=gq s l hz;have bT:=sX s l hs;have bk:=gq s (aC s l).2 ax.2.1;have bd:=qI (aC s l).1.text b;generalize hr1:aC s l=r1 at *;obtain⟨⟨X,u1,f1,C⟩,z1⟩:=r1;simp only at ax bT bk bd z;have b1:=sX s z1 hs;generalize hr2:aC s z1=r2 at *;obtain⟨⟨t2,u2,f2,Q⟩,z2⟩:=r2;simp only at bk b1 z;rw[ho]at z;have S0:tD w W N I y0 o l b z6 y d v n s:=⟨D,TB,SC,hF,MK.o⟩;go_enter func206,ntmps206;go_upto_region 1 with fail
  rw[HW.o];go_wp2_with fail;refine(um N 200 5 (eN I y) [] d v _ D (j4 I y ba)).mono ?_;rintro e w1 ⟨rfl,t⟩;subst t;rw[ho];go_wp2_with fail;refine(uk o l n s _ hs hz SC).mono ?_;rintro e w2 ⟨rfl,Y,be⟩;rw[hr1]at Y ⊢;simp only[fZ]at Y ⊢;have S2:=S0.next be Y V bj ar ai;obtain⟨W3,ac⟩:∃W3,W3=w2.alloc (.cells #[string X,int i64 u1,bool f1,string n,int i64 (aX s C),int i64 (bK s C)] 255):=⟨_,rfl⟩
  have aT:Xr _:=ac.symm;have S3:tD w W3 N I y0 o z1 b z6 y d v n s:=by rw[ac];exact S2.Yh (bM.alloc _)
  have I3:kK W3 w2.heap.size n s ⟨X,u1,f1,C⟩:=by rw[ac];exact Ui _ _
  clear ac S0 S2 Y be D TB SC hP hF hK HW hr1;go_upto_region 4 with fail
  rw[aT.o];clear aT;obtain⟨g,i,m,p,a4,a5⟩:=I3.cells;go_wp2_with fail;refine(dK X n u1 (aX s C) (bK s C) f1 _).mono ?_;rintro e w4 ⟨rfl,an⟩;have J:=S3.Yh an;have I4:=I3.Yu an (by simp);clear g i m p a4 a5 S3 I3 an;obtain⟨g,i,m,p,a4,a5⟩:=I4.cells;have b5:=aj I4;have b2:=aj J.F;cases t:(u1==0 && !f1)
  ·have f:Xr (oo (dd b H) b x l ⟨n,u,c⟩ y d=((jB n s ⟨X,u1,f1,C⟩,y,d),l)):=by
    show _=_;rw[G.o,z.o];simp[aK,t]
   clear G z;go_wp2_with fail;refine(ox X n u1 (aX s C) (bK s C) f1 _).mono ?_;rintro e w5 ⟨rfl,bs⟩;obtain⟨q,hq⟩:∃q:Int,Xr ((if f1=true then(7:Int) else u1)=q):=⟨_,rfl⟩
   rw[hq.o];have S:=J.Yh bs;obtain⟨K,L,O,P⟩:=cZ S.F;have az:=am S.F;have a:Xr _:=(fun g i m p=>kY S.D S.M (F:=w.heap.size+1) (by omega) (by omega) (A.o _ (by omega)) g i m p);clear g i m p a4 a5;go_wp2;exact Um (v:=agg #[int i64 q,string n,int i64 (aX s C),int i64 (bK s C)]) (by simp[results,results206,go_sem,K,L,O,P]) rfl
    ⟨by rw[f.o,ss,hq.o],v,by rw[f.o];exact(a.o _ _ _ _).1,(a.o _ _ _ _).2,by
     rw[f.o];intro B
     exfalso
     simp only[jB]at B;cases f1
     ·simp at t B;exact t B
     ·simp at B⟩
  ·have bx:u1=0:=(by simp at t;exact t.1);have bp:f1=false:=(by simp at t;exact t.2);subst bx bp;cases U:dD X
   ·have b0:w4.cell? ⟨N,0,none⟩=some (pointer (some ⟨I,0,none⟩)):=J.D.preCell 0 (by simp[eN]);rcases bd with ag | ⟨j,hj,af⟩
    ·have f:Xr (oo (dd b H) b x l ⟨n,u,c⟩ y d=(((6,lD n s C),y,d),l)):=by
      show _=_;rw[G.o,z.o];simp[aK,U,ag]
     clear G z;(go_upto_region 8 with (go_at_call 232;refine(fe X _ (by omega)).mono ?_;rintro e w5 ⟨rfl,rfl⟩));go_quiet ((go_at_call 51;exact UD (mD I y0 b z6 X _ (J.Yh (bM.drewN _)).TB)));have S:=J.Yh (bM.drewN nq);rw[ag];obtain⟨K,L,O,P⟩:=cZ J.F;have az:=am J.F;have a:Xr _:=(fun g i m p=>kY S.D S.M (F:=w.heap.size+1) (by omega) (by omega) (A.o _ (by omega)) g i m p);go_wp2;exact Um (v:=agg #[int i64 6,string n,int i64 (aX s C),int i64 (bK s C)]) (by simp[results,results206,go_sem,K,L,O,P]) rfl
      ⟨by rw[f.o];rfl,v,by rw[f.o];exact(a.o _ _ _ _).1,(a.o _ _ _ _).2,by rw[f.o];intro B;cases B⟩
    ·(go_upto_region 8 with (go_at_call 232;refine(fe X _ (by omega)).mono ?_;rintro e w5 ⟨rfl,rfl⟩));go_quiet ((go_at_call 51;exact UD (mD I y0 b z6 X _ (J.Yh (bM.drewN _)).TB)));rw[af];have S:=J.Yh (bM.drewN nq);go_wp2_with fail;refine(uk o z1 n s _ hs ax.2.1 S.SC).mono ?_;rintro e w6 ⟨rfl,Z,bf⟩;rw[hr2]at Z ⊢;simp only[fZ]at Z ⊢;have S6:=S.next bf Z V bj ar ai;obtain⟨W7,ad⟩:∃W7,W7=w6.alloc (.cells #[string t2,int i64 u2,bool f2,string n,int i64 (aX s Q),int i64 (bK s Q)] 255):=⟨_,rfl⟩
     have a6:Xr _:=ad.symm;have S7:tD w W7 N I y0 o z2 b z6 y d v n s:=(by rw[ad];exact S6.Yh (bM.alloc _));have I7:kK W7 w6.heap.size n s ⟨t2,u2,f2,Q⟩:=(by rw[ad];exact Ui _ _);clear ad J S S6 Z bf I4 g i m p a4 a5 b0;(go_upto_region 12 with fail);rw[a6.o];clear a6;obtain⟨g,i,m,p,a4,a5⟩:=I7.cells;go_wp2_with fail;refine(dK t2 n u2 (aX s Q) (bK s Q) f2 _).mono ?_;rintro e w8 ⟨rfl,ao⟩;have T:=S7.Yh ao;have I8:=I7.Yu ao (by simp);clear g i m p a4 a5 S7 I7 ao;obtain⟨g,i,m,p,a4,a5⟩:=I8.cells;have a7:=aj T.F;have al:¬((j:Int)<0):=by omega
     cases E:(u2==0 && !f2)
     ·have f:Xr (oo (dd b H) b x l ⟨n,u,c⟩ y d=((jB n s ⟨t2,u2,f2,Q⟩,y,d),l)):=by
       show _=_;rw[G.o,z.o,af];simp[aK,U,E,al]
      clear G z;go_wp2_with fail;refine(ox t2 n u2 (aX s Q) (bK s Q) f2 _).mono ?_;rintro e w9 ⟨rfl,bv⟩;obtain⟨q,hq⟩:∃q:Int,Xr ((if f2=true then(7:Int) else u2)=q):=⟨_,rfl⟩
      rw[hq.o];have S9:=T.Yh bv;obtain⟨K,L,O,P⟩:=cZ S9.F;have az:=am S9.F;have a:Xr _:=(fun g i m p=>kY S9.D S9.M (F:=w.heap.size+1) (by omega) (by omega) (A.o _ (by omega)) g i m p);clear g i m p a4 a5;go_wp2;exact Um (v:=agg #[int i64 q,string n,int i64 (aX s Q),int i64 (bK s Q)]) (by simp[results,results206,go_sem,K,L,O,P]) rfl
       ⟨by rw[f.o,ss,hq.o],v,by rw[f.o];exact(a.o _ _ _ _).1,(a.o _ _ _ _).2,by
        rw[f.o];intro B
        exfalso
        simp only[jB]at B;cases f2
        ·simp at E B;exact E B
        ·simp at B⟩
     ·have bz:u2=0:=(by simp at E;exact E.1);have br:f2=false:=(by simp at E;exact E.2);subst bz br;cases bc:(t2.toList == [36,93])
      ·have f:Xr (oo (dd b H) b x l ⟨n,u,c⟩ y d=(((5,lD n s Q),y,d),l)):=by
        show _=_;rw[G.o,z.o,af];simp[aK,U,bc,al]
       clear G z;obtain⟨K,L,O,P⟩:=cZ T.F;have az:=am T.F;have a:Xr _:=(fun g i m p=>kY T.D T.M (F:=w.heap.size+1) (by omega) (by omega) (A.o _ (by omega)) g i m p);go_wp2;exact Um (v:=agg #[int i64 5,string n,int i64 (aX s Q),int i64 (bK s Q)]) (by simp[results,results206,go_sem,K,L,O,P]) rfl
        ⟨by rw[f.o];rfl,v,by rw[f.o];exact(a.o _ _ _ _).1,(a.o _ _ _ _).2,by rw[f.o];intro B;cases B⟩
      ·have f:Xr (oo (dd b H) b x l ⟨n,u,c⟩ y d=(dd b H j y d,z2)):=by
        show _=_;rw[G.o,z.o,af];simp[aK,U,bc,al]
       clear G z;have RJ:=RF.o j w8 hj T.D T.TB;unfold ko at RJ;have aS:Xr _:=RJ;clear RJ RF;generalize dd b H j y d=R at *;obtain⟨⟨r,pf,pl,pc⟩,b3,d'⟩:=R;simp only[iz]at aS;go_wp2_with fail;refine Ug aS.o ?_;rintro e w9 ⟨rfl,H9,D9,T9⟩;have F9:=T9.1.get T.F (by rintro (e | e);omega;exact A.o _ (by omega) e);have bo:cg w9 o n s z2:=T9.1.get T.SC (by rintro (e | e);exact V e;exact ar e);obtain⟨K,L,O,P⟩:=cZ F9;have az:=am F9;have a:Xr _:=(fun g i m p=>kY D9 (T.M.trans (T9.Ym o)) (F:=w.heap.size+1) (by omega) (by omega) (T9.fresh _ a7 (A.o _ (by omega))) g i m p);have bl:Xr _:=(fun g i m p=>bo.Yu (jY (r:=w.heap.size+1) g i m p) (by simp;omega));clear g i m p a4 a5;go_wp2;exact Um (v:=agg #[int i64 r,string pf,int i64 pl,int i64 pc]) (by simp[results,results206,go_sem,K,L,O,P]) rfl
        ⟨by rw[f.o];rfl,H9,by rw[f.o];exact(a.o _ _ _ _).1,(a.o _ _ _ _).2,by rw[f.o];exact fun _=>bl.o _ _ _ _⟩
   ·have f:Xr (oo (dd b H) b x l ⟨n,u,c⟩ y d=(((5,lD n s C),y,d),l)):=by
     show _=_;rw[G.o,z.o];simp[aK,U]
    clear G z;obtain⟨K,L,O,P⟩:=cZ J.F;have az:=am J.F;have a:Xr _:=(fun g i m p=>kY J.D J.M (F:=w.heap.size+1) (by omega) (by omega) (A.o _ (by omega)) g i m p);go_wp2_with (go_at_call 232;refine(fe X _ (by omega)).mono ?_;rintro e w5 ⟨rfl,rfl⟩);exact Um (v:=agg #[int i64 5,string n,int i64 (aX s C),int i64 (bK s C)]) (by simp[results,results206,go_sem,K,L,O,P]) rfl
     ⟨by rw[f.o];rfl,v,by rw[f.o];exact(a.o _ _ _ _).1,(a.o _ _ _ _).2,by rw[f.o];intro B;cases B⟩
 ·have f:Xr (oo (dd b H) b x l ⟨n,u,c⟩ y d=(((4,⟨n,u,c⟩),y,d),l)):=by
   show _=_;rw[G.o,z.o,ho];simp
  clear G z;obtain⟨i0,i1,i2⟩:=xy hP;obtain⟨K,L,O,P⟩:=cZ hF;have az:=am hF;have a:Xr _:=(fun g i m p=>kY D MK.o (F:=w.heap.size+1) (by omega) (by omega) (A.o _ (by omega)) g i m p);go_enter func206,ntmps206;go_upto_region 1 with fail
  rw[HW.o];go_wp2_with fail;refine(um N 200 5 (eN I y) [] d v _ D (j4 I y ba)).mono ?_;rintro e w1 ⟨rfl,t⟩;subst t;rw[ho];go_wp2;exact Um (v:=agg #[int i64 4,string n,int i64 u,int i64 c]) (by simp[results,results206,go_sem,K,L,O,P]) rfl
   ⟨by rw[f.o];rfl,v,by rw[f.o];exact(a.o _ _ _ _).1,(a.o _ _ _ _).2,by rw[f.o];intro B;cases B⟩
theorem Cm(A:y.length=4)(d:Db)(f:Nat->Hd)(n s t:Xs)(a c:Int)(w:World)(h:aV w N 200 (eN I y) [] d f)(hn:aF b x=n)(V:ak b x=s)(hs:s.size<=1024)(hz:l<=s.size)(m:cg w o n s l)(ht:bO w I y0 b z6)(g:o≠N)(Z:I≠o)(C:¬gF f o)(X:gC d 10000000)(Y:t.size<=1073741824)(U:CT d 100000000)(RF:Xr (∀(j:Nat) (i:World),j<b.length->aV i N 200 (eN I y) [] d f->bO i I y0 b z6->ko N I b H j y d f i)) :
  Calls prog 158 #[pointer (some ⟨N,0,none⟩),pointer (some ⟨o,0,none⟩),agg #[string t,int i64 0,bool false,string n,int i64 a,int i64 c]] w fun e i =>
   e=returned (iz (kG (dd b H) b x l t ⟨n,a,c⟩ y d).1.1)/\∃D,aV i N 200 (eN I (kG (dd b H) b x l t ⟨n,a,c⟩ y d).1.2.1) [] (kG (dd b H) b x l t ⟨n,a,c⟩ y d).1.2.2 D/\gB N o w f i D /\
    (((kG (dd b H) b x l t ⟨n,a,c⟩ y d).1.1.1==0)=true->cg i o n s (kG (dd b H) b x l t ⟨n,a,c⟩ y d).2):=by
 cases T:(t.toList == [36,91])
 ·have E:kG (dd b H) b x l t ⟨n,a,c⟩ y d=((if((aZ d t ⟨n,a,c⟩).1==0)=true then dh else((aZ d t ⟨n,a,c⟩).1,⟨n,a,c⟩),y,(aZ d t ⟨n,a,c⟩).2),l):=by
   unfold kG;rw[T];simp
  rw[E];refine(vx N 200 I y A d f _ t n a c w h X Y U T).mono ?_;rintro e i ⟨rfl,D,D',T'⟩;exact⟨rfl,D,D',T'.Ym o,fun _=>T'.1.get m (by rintro (e | e);exact g e;exact C e)⟩
 ·have E:kG (dd b H) b x l t ⟨n,a,c⟩ y d=oo (dd b H) b x l ⟨n,a,c⟩ y d:=by
   unfold kG;rw[T];simp
  rw[E];obtain⟨W,z⟩:∃W,W=((w.alloc (.cells #[string t,int i64 0,bool false,string n,int i64 a,int i64 c] 255)).alloc (.cells #[int i64 0,string ⟨#[]⟩,int i64 0,int i64 0] 87)):=⟨_,rfl⟩
  have G:ae [] w W:=by rw[z];exact((ae.refl [] w).alloc _).alloc _
  have af:=h.lt;have ac:=aj m;have hI:W.heap[w.heap.size]?=some (.cells #[string t,int i64 0,bool false,string n,int i64 a,int i64 c] 255):=by
   rw[z];exact(bM.alloc _).get (Ui _ _) (by simp)
  have hF:W.heap[w.heap.size+1]?=some (.cells bH 87):=by
   rw[z];have:=Ui (w.alloc (.cells #[string t,int i64 0,bool false,string n,int i64 a,int i64 c] 255)) (.cells #[int i64 0,string ⟨#[]⟩,int i64 0,int i64 0] 87);simpa [bH] using this
  obtain⟨i0,-,-,i3,i4,i5⟩:=JX hI;have IC:=DJ N I y0 o H x l b z6 y A d f n s a c W (h.Yh G) hn V hs hz (m.Yu G (by simp)) (ht.Yu G (by simp)) g Z C RF;have q:Xr _:=IC;have u:Xr (∀k,w.heap.size<=k->¬gF f k):=fun k hk hm=>by have:=h.inlt hm;omega
  have HW:Xr _:=z.symm;have Q:=aj hF;clear z IC RF E h;generalize oo (dd b H) b x l ⟨n,a,c⟩ y d=R at *;obtain⟨⟨⟨r,pf,pl,pc⟩,ad,d'⟩,z'⟩:=R;simp only[iz]at q ⊢;go_enter func158,ntmps158;go_upto_region 1 with fail
  rw[HW.o];go_wp2_with fail;refine Ug q.o ?_;rintro e w2 ⟨rfl,H2,D2,K,B⟩;have v:=K.1.get hF (by rintro (e | e | e);omega;omega;exact u.o _ (by omega) e);obtain⟨j0,j1,j2,j3⟩:=cZ v;have ag:=am v;have p:Xr _:=(fun L M O P=>kY D2 (K.first G) (F:=w.heap.size+1) (by omega) (by omega) (K.fresh _ Q (u.o _ (by omega))) L M O P);have J:Xr _:=(fun L M O P S=>(B S).Yu (jY (r:=w.heap.size+1) L M O P) (by simp;omega));clear B i0 i3 i4 i5;go_wp2;exact Um (v:=agg #[int i64 r,string pf,int i64 pl,int i64 pc]) (by simp[results,results158,go_sem,j0,j1,j2,j3]) rfl
   ⟨rfl,H2,(p.o _ _ _ _).1,(p.o _ _ _ _).2,fun S=>J.o _ _ _ _ S⟩
set_option maxRecDepth 512
theorem D0 :
  Calls prog 154 #[agg #[string y3,string zt]] D fun e a=>∃s,e=returned (pointer (some ⟨s,0,none⟩))/\D.heap.size<=s/\cg a s y3 zt 0/\ae [] D a:=by
 go_enter func154,ntmps154;go_wp2;go_ret;refine⟨D.heap.size+1,rfl,by omega,?_,((ae.refl _ _).alloc _).alloc _⟩;have:=Ui (D.alloc (.cells #[string y3,string zt] 68)) (.cells #[string y3,string zt,int i64 0,int i64 1,int i64 1] 300);simpa [cg,nH,aX,bK] using this
theorem aw.beyond(a:aw T f S i L)(k:ae z4 i g)(d:∀x,x∈z4->f.heap.size<=x):aw T f S g L :=
 ⟨⟨k.os.trans a.1.os,k.tape.trans a.1.tape,k.output.trans a.1.output,Un a.1.size k.size,fun b c j=>by
  rw[<-a.1.block b c j];exact k.block b (Ul c a.1.size) (fun e=>by have:=d b e;omega)⟩,a.2⟩
theorem aw.word(a:aw T f S i L)(M:gB T d i L g yr)(l:f.heap.size<=d):aw T f S g yr:=by
 refine⟨⟨M.1.os.trans a.1.os,M.1.tape.trans a.1.tape,M.1.output.trans a.1.output,Un a.1.size M.1.size,?_⟩,?_⟩
 ·intro k b c;rw[<-a.1.block k b c];refine M.1.block k (Ul b a.1.size) ?_;rintro (e | e | j)
  ·exact c (Us e)
  ·omega
  ·rcases a.2 k j with h | h
   ·exact c (Uo h)
   ·omega
 ·intro k b;rcases M.2 k b with h | h
  ·exact a.2 k h
  ·exact Uo (Un a.1.size h)
theorem La:(eN l y).set (1+s) (bool true)=eN l (y.set s true):=by
 unfold eN;rw[Nat.add_comm 1 s,Wb,Wo]
theorem Ek(h:y.length=4)(a:s<4):(eN l y)[1+s]?=some (bool (y.getD s true)):=by
 unfold eN;rw[Nat.add_comm 1 s,VR,UL,Uc];rw[Ub (by omega)];rfl
set_option maxRecDepth 100000
theorem yK(a:y.length=4)(d:Db)(c:Nat->Hd)(w:World)(i:l<4)(h:aV w o 200 (eN H y) [] d c)(e:y.getD l true=true):ko o H b x l y d c w:=by
 unfold ko dd;rw[Uf e];have g:=h.lt;have f:=h.preCell (1+l) (by rw[j4 H y a];omega);rw[Ek H y l a i,e]at f;go_enter func112,ntmps112;go_wp2;exact Um (v:=agg #[int i64 0,string ⟨#[]⟩,int i64 0,int i64 0]) (by simp[results,results112,go_sem]) rfl
  ⟨rfl,c,h.Yh (bM.alloc _),(aw.refl _ _ _).Yh (bM.alloc _)⟩
theorem zL(co:∀j,j<b.length->(ak b j).size<=1024)(bw:H≠o)(IH:∀g,g<l->∀(j:Nat) (J:List Bool) (d:Db) (K:Nat->Hd) (w:World) (m:Nat),j<b.length->J.length=4->oQ d m->m+eS b J<=9000000->eS b J<=g->aV w o 200 (eN H J) [] d K->bO w H x b c->¬gF K H->ko o H b g j J d K w)(j:Nat)(J:List Bool)(d:Db)(K:Nat->Hd)(w:World)(m:Nat)(hj:j<b.length)(af:J.length=4)(hB:oQ d m)(hm:m+eS b J<=9000000)(hf:eS b J<=l)(h:aV w o 200 (eN H J) [] d K)(ht:bO w H x b c)(bx:¬gF K H)(hb:J.getD j true=false):ko o H b l j J d K w:=by
 unfold ko dd;rw[Ud (by rw[hb];simp)];have cs:=ht.2;have hs:=co j hj;have bl:=yn b J j af hb;obtain⟨n,hn⟩:∃n,aF b j=n:=⟨_,rfl⟩
 obtain⟨s,ac⟩:∃s,ak b j=s:=⟨_,rfl⟩
 rw[ac]at hs bl;have cz:=h.lt;have ca:=h.free;have cL:=ht.lt;have c1:=h.preCell (1+j) (by rw[j4 H J af];omega);rw[Ek H J j af (by omega),hb]at c1;have c0:=h.preCell 0 (by simp[eN]);have b2:w.cell? ⟨o,0,none⟩=some (pointer (some ⟨H,0,none⟩)):=c0;clear c0;have P1:=h.pre (1+j) (by rw[j4 H J af];omega) (bool true);rw[La]at P1;obtain⟨i,ag⟩:∃i,J.set j true=i:=⟨_,rfl⟩
 have cc:i.length=4:=by rw[<-ag];simpa using af
 rw[ag]at P1 bl ⊢;clear ag;obtain⟨W,hW⟩:∃W,W=(w.setCell ⟨o,1+j,none⟩ (bool true)).alloc (.cells #[int i64 0,string ⟨#[]⟩,int i64 0,int i64 0] 87):=⟨_,rfl⟩
 have D1:aV W o 200 (eN H i) [] d K:=by rw[hW];exact P1.1.Yh (bM.alloc _)
 have T1:aw o w K W K:=by rw[hW];exact P1.2.Yh (bM.alloc _)
 have F1:W.heap[w.heap.size]?=some (.cells bH 87):=by
  rw[hW];have:=Ui (w.setCell ⟨o,1+j,none⟩ (bool true)) (.cells bH 87);simpa [World.setCell,bH] using this
 have bc:bO W H x b c:=⟨T1.1.get ht.1 (by rintro (e | e);exact bw e;exact bx e),ht.2⟩;have ar:Xr (∀k,w.heap.size<=k->¬gF K k):=fun k hk hm=>by have:=h.inlt hm;omega
 have HW:Xr _:=hW.symm;have bT:Xr _:=IH;clear P1 hW IH;go_enter func112,ntmps112;go_wp2_with fail;rw[HW.o];clear HW c1 b2 ca ht h;refine(M9 H x j b c _ bc hj).mono ?_;rintro e w2 ⟨rfl,Z⟩;rw[hn,ac];go_wp2_with fail;refine(D0 n s _).mono ?_;rintro e w3 ⟨sp,rfl,cF,h3,ai⟩;go_wp2_with fail;refine(uk sp 0 n s _ hs (by omega) h3).mono ?_;rintro e w4 ⟨rfl,h4,al⟩;have cy:=aj F1;have cP:=Z.size;have cu:w.heap.size<sp:=by omega
 have bv:sp≠o:=by omega
 have bz:H≠sp:=by omega
 have T4:aw o w K w4 K:=(((T1.Yh Z).Yh ai).beyond al (by simp;omega));have F4:w4.heap[w.heap.size]?=some (.cells bH 87):=al.get (ai.get (Z.get F1 (by simp)) (by simp)) (by simp;omega);have D4:aV w4 o 200 (eN H i) [] d K:=((D1.Yh Z).Yh ai).Yu al (by simp;omega) (by intro k hk;simp;rintro rfl;exact ar.o _ (by omega) hk);have be:bO w4 H x b c:=((bc.Yu Z (by simp)).Yu ai (by simp)).Yu al (by simp;omega);have ct:=aj h4;clear D1 T1 F1 bc Z ai al h3;simp only[fZ];go_wp2
 go_loopg [7] s.size (fun gk _ wr=>∃(k g m1:Nat) (f:List Bool) (B:Db) (L:Nat->Hd),k<=s.size/\gk=s.size-k/\f.length=4/\oQ B m1/\m1+(s.size-k)+eS b f<=9000000/\(s.size-k)+eS b f+1<=g/\g<=l /\
  Xr (bE b l j 0 i d=bE b g j k f B)/\cg wr sp n s (aC s k).2/\kK wr w4.heap.size n s (aC s k).1 /\
  wr.heap[w.heap.size]?=some (.cells bH 87)/\aV wr o 200 (eN H f) [] B L/\bO wr H x b c/\aw o w K wr L/\(¬gF L sp/\¬gF L w4.heap.size/\¬gF L w.heap.size/\¬gF L H))
 ·exact⟨0,l,m,i,d,K,by omega,by omega,cc,hB,by omega,by omega,Ue _,rfl,h4.Yu (bM.alloc _) (by simp),Ui _ _,(bM.alloc _).get F4 (by simp),D4.Yh (bM.alloc _),be.Yu (bM.alloc _) (by simp),T4.Yh (bM.alloc _),ar.o _ (by omega),ar.o _ (by omega),ar.o _ (by omega),bx⟩
 obtain⟨k,g,m1,f,B,L,hk,hg,ao,az,cE,cA,cB,hR,h5,hI,hF,D,TB,T,bo,bp,P,ba⟩:=hrel;obtain⟨O,rfl⟩:∃O,g=O+1:=⟨g-1,by omega⟩
 clear D4 T4 F4 be h4;have br:=gq s k hk;have cr:=sX s k hs;have SK:=EJ b O (Ni b O).2 j k f B m1 (by rw[ac];exact hk) ao az;have L1:=Al b O j k f B;have L2:=pO b O j k f B;have L3:=BG b O j k f B;have L4:=xV b O j k f B;have ST:ia b O j k f B=kG (dd b O) b j (aC s k).2 (aC s k).1.text (lD n s (aC s k).1.pos) f B:=by unfold ia;rw[hn,ac]
 rw[ac]at SK L1 L2 L3 L4;rw[hn]at L4;rw[ST]at SK L1 L2;have L6:aK (aC s k).1=false->(aC s k).1.YA=false->((aC s k).1.YE==0)=false:=ld;have X:Xr _:=SK;have S:Xr _:=L1;have U:Xr _:=L2;have V:Xr _:=L3;have M:Xr _:=L4;have ad:Xr _:=L6;clear SK L1 L2 L3 L4 L6 ST;generalize hrr:aC s k=r at *;obtain⟨⟨t,u,fi,p⟩,z⟩:=r;clear hrr;simp only at h5 hI br cr X S U V M ad;obtain⟨q0,q1,q2,q3,q4,q5⟩:=hI.cells;have cH:=aj h5;cases hw:(u==0 && !fi)
 ·cases fi
  ·have R:Xr (bE b l j 0 i d=(jB n s ⟨t,u,false,p⟩,f,B)):=hR.o.trans (M.o hw (by simp));have hu:(u==0)=false:=(by simpa using hw);clear S U V M ad X;go_wp2_with fail;refine(dK t n _ (aX s p) (bK s p) _ _).mono ?_;rintro e w5 ⟨rfl,a⟩;have A:=hI.Yu a (by simp);have q:=a.get hF (by simp);have D5:=D.Yh a;have T5:=T.Yh a;clear q0 q1 q2 q3 q4 q5 hI h5 hF D T a TB;obtain⟨q0,q1,q2,q3,q4,q5⟩:=A.cells;go_wp2_with fail;refine(ox t n u (aX s p) (bK s p) _ _).mono ?_;rintro e w6 ⟨rfl,a6⟩;simp only[Bool.false_eq_true,if_false];have C:=a6.get q (by simp);have D6:=D5.Yh a6;have T6:=T5.Yh a6;have v:Xr _:=(fun a0 a1 a2 a3=>pd D6 T6 (F:=w.heap.size) (Ue _) (by omega) P a0 a1 a2 a3);obtain⟨z0,z1,z2,z3⟩:=cZ C;have y:=am C;go_wp2;exact Um (v:=agg #[int i64 u,string n,int i64 (aX s p),int i64 (bK s p)]) (by simp[results,results112,go_sem,z0,z1,z2,z3]) rfl
    ⟨by rw[R.o];rfl,L,by rw[R.o];exact(v.o _ _ _ _).1,(v.o _ _ _ _).2⟩
  ·cases ho:lT B
   ·have R:Xr (bE b l j 0 i d=(dh,f,B)):=hR.o.trans (V.o hw rfl ho);clear S U V M ad X;go_wp2_with fail;refine(dK t n _ (aX s p) (bK s p) _ _).mono ?_;rintro e w5 ⟨rfl,a⟩;have A:=hI.Yu a (by simp);have q:=a.get hF (by simp);have D5:=D.Yh a;have T5:=T.Yh a;clear q0 q1 q2 q3 q4 q5 hI h5 hF D T a TB;obtain⟨q0,q1,q2,q3,q4,q5⟩:=A.cells;go_wp2_with fail;refine(um o 200 5 (eN H f) [] B L _ D5 (j4 H f ao)).mono ?_;rintro e w6 ⟨rfl,bd⟩;subst bd;rw[ho];have v:Xr _:=(fun a0 a1 a2 a3=>pd D5 T5 (F:=w.heap.size) (Ue _) (by omega) P a0 a1 a2 a3);obtain⟨z0,z1,z2,z3⟩:=cZ q;have y:=am q;go_wp2;exact Um (v:=agg #[int i64 0,string ⟨#[]⟩,int i64 0,int i64 0]) (by simp[results,results112,go_sem,z0,z1,z2,z3]) rfl
     ⟨by rw[R.o];rfl,L,by rw[R.o];exact(v.o _ _ _ _).1,(v.o _ _ _ _).2⟩
   ·have R:Xr (bE b l j 0 i d=(jB n s ⟨t,u,true,p⟩,f,B)):=hR.o.trans (M.o hw (by simp[ho]));clear S U V M ad X;go_wp2_with fail;refine(dK t n _ (aX s p) (bK s p) _ _).mono ?_;rintro e w5 ⟨rfl,a⟩;have A:=hI.Yu a (by simp);have q:=a.get hF (by simp);have D5:=D.Yh a;have T5:=T.Yh a;clear q0 q1 q2 q3 q4 q5 hI h5 hF D T a TB;obtain⟨q0,q1,q2,q3,q4,q5⟩:=A.cells;go_wp2_with fail;refine(um o 200 5 (eN H f) [] B L _ D5 (j4 H f ao)).mono ?_;rintro e w6 ⟨rfl,bd⟩;subst bd;rw[ho];go_wp2_with fail;refine(ox t n u (aX s p) (bK s p) _ _).mono ?_;rintro e w7 ⟨rfl,a7⟩;simp only[if_true];have bj:=a7.get q (by simp);have D7:=D5.Yh a7;have T7:=T5.Yh a7;have v:Xr _:=(fun a0 a1 a2 a3=>pd D7 T7 (F:=w.heap.size) (Ue _) (by omega) P a0 a1 a2 a3);obtain⟨z0,z1,z2,z3⟩:=cZ bj;have y:=am bj;go_wp2;exact Um (v:=agg #[int i64 7,string n,int i64 (aX s p),int i64 (bK s p)]) (by simp[results,results112,go_sem,z0,z1,z2,z3]) rfl
     ⟨by rw[R.o];rfl,L,by rw[R.o];exact(v.o _ _ _ _).1,(v.o _ _ _ _).2⟩
 ·have hu:u=0:=by simp at hw;exact hw.1
  have b6:fi=false:=by simp at hw;exact hw.2
  subst hu b6;have cl:=az.small (N:=10000000) (by omega);have bs:=(az.small (N:=100000000) (by omega)).2;have RW:=fun(w':World) (h':aV w' o 200 (eN H f) [] B L) (ck:cg w' sp n s z) (cp:bO w' H x b c)=>Cm o H x sp O j z b c f ao B L n s t (aX s p) (bK s p) w' h' hn ac hs br.2.1 ck cp bv bz bo cl.1 (by omega) bs
   (fun jj ww cb b5 cq=>bT.o O (by omega) jj f B L ww m1 cb ao az (by omega) (by omega) b5 cq ba)
  have aT:Xr _:=RW;have I:Xr _:=X.o hw;have E:Xr _:=S.o hw;have G:Xr _:=U.o hw;clear RW S U V M ad X;simp only[lD]at I E G;generalize kG (dd b O) b j z t ⟨n,aX s p,bK s p⟩ f B=Q at *;obtain⟨⟨⟨r,pf,pl,pc⟩,a4,d2⟩,z2⟩:=Q;simp only[iz]at I E G aT;have ap:=I.o.2;obtain⟨bk,cf,m2,bf,ce⟩:=I.o.1;simp only at bk cf bf ce ap;clear I;cases hr:(r==0)
  ·have ch:(r != 0)=true:=(by simp[bne,hr]);have R:Xr (bE b l j 0 i d=((r,⟨pf,pl,pc⟩),a4,d2)):=hR.o.trans (G.o hr);clear E G;go_wp2_with fail;refine(dK t n _ (aX s p) (bK s p) _ _).mono ?_;rintro e w5 ⟨rfl,a⟩;have A:=hI.Yu a (by simp);have ax:=h5.Yu a (by simp);have q:=a.get hF (by simp);have D5:=D.Yh a;have T5:=T.Yh a;have Y:=TB.Yu a (by simp);clear q0 q1 q2 q3 q4 q5 hI h5 hF D T TB a;obtain⟨q0,q1,q2,q3,q4,q5⟩:=A.cells;go_wp2_with fail;refine(aT.o _ D5 ax Y).mono ?_;rintro e w6 ⟨rfl,H2,D6,M6,-⟩;have C:=M6.1.get q (by rintro (e | e | e);omega;omega;exact P e);have m3:=M6.fresh w.heap.size (aj q) P;have T7:=T5.word M6 (by omega);have aS:=aj C;have y6:=am C;obtain⟨z0,z1,z2,z3⟩:=cZ C;have v:Xr _:=(fun a0 a1 a2 a3=>pd D6 T7 (F:=w.heap.size) (Ue _) (by omega) m3 a0 a1 a2 a3);clear q0 q1 q2 q3 q4 q5;go_wp2;exact Um (v:=agg #[int i64 r,string pf,int i64 pl,int i64 pc]) (by simp[results,results112,go_sem,aS,z0,z1,z2,z3]) rfl
    ⟨by rw[R.o];rfl,H2,by rw[R.o];exact(v.o _ _ _ _).1.Yh (bM.alloc _),((v.o _ _ _ _).2.Yh (bM.alloc _))⟩
  ·have ch:(r != 0)=false:=(by simp[bne,hr]);have R:Xr (bE b l j 0 i d=bE b O j z2 a4 d2):=hR.o.trans (E.o hr);clear E G;go_wp2_with fail;refine(dK t n _ (aX s p) (bK s p) _ _).mono ?_;rintro e w5 ⟨rfl,a⟩;have A:=hI.Yu a (by simp);have ax:=h5.Yu a (by simp);have q:=a.get hF (by simp);have D5:=D.Yh a;have T5:=T.Yh a;have Y:=TB.Yu a (by simp);clear q0 q1 q2 q3 q4 q5 hI h5 hF D T TB a;obtain⟨q0,q1,q2,q3,q4,q5⟩:=A.cells;go_wp2_with fail;refine(aT.o _ D5 ax Y).mono ?_;rintro e w6 ⟨rfl,H2,D6,M6,cj⟩;have h6:=cj hr;have C:=M6.1.get q (by rintro (e | e | e);omega;omega;exact P e);have b4:kK w6 w4.heap.size n s ⟨t,0,false,p⟩:=M6.1.get A (by rintro (e | e | e);omega;omega;exact bp e);have b0:bO w6 H x b c:=⟨M6.1.get Y.1 (by rintro (e | e | e);exact bw e;exact bz e;exact ba e),Y.2⟩;have e1:=M6.fresh sp (aj ax) bo;have e2:=M6.fresh w4.heap.size (aj A) bp;have e3:=M6.fresh w.heap.size (aj q) P;have e4:=M6.fresh H Y.lt ba;have T7:=T5.word M6 (by omega);have aS:=aj C;have cx:=aj h6;go_wp2_with fail;refine(uk sp z2 n s _ hs ap.2 (by exact h6.Yu (bM.alloc _) (by simp))).mono ?_;rintro e w8 ⟨rfl,h8,an⟩;have a5:=(b4.Yu (bM.alloc _) (by simp)).Yu an (by simp;omega);have b3:=an.get ((bM.alloc _).get C (by simp)) (by simp;omega);have D8:=(D6.Yh (bM.alloc _)).Yu an (by simp;omega) (by intro k hk;simp;rintro rfl;exact e1 hk);have b1:=(b0.Yu (bM.alloc _) (by simp)).Yu an (by simp;omega);have T8:=(T7.Yh (bM.alloc _)).beyond an (by simp;omega);have yy:=am a5;clear q0 q1 q2 q3 q4 q5;obtain⟨q0,q1,q2,q3,q4,q5⟩:=a5.cells;simp only[fZ];go_wp2;go_roundg (s.size-z2)
   ·exact⟨z2,O,m2,a4,d2,H2,ap.2,rfl,bk,bf,by omega,by omega,by omega,R.o,iG h8 (by omega) _ _ _ _ _ _,qL a5 _,vE b3 (by omega) _ _ _ _ _ _,
     D8.Yu (GJ _ _ _ _ _ _) (by simp;omega) (by intro k hk;simp;rintro rfl;exact e2 hk),b1.Yu (GJ _ _ _ _ _ _) (by simp;omega),T8.beyond (GJ _ _ _ _ _ _) (by simp;omega),e1,e2,e3,e4⟩
   omega
theorem Cl(i:∀j,j<b.length->(ak b j).size<=1024)(k:x≠H)(f:Nat):∀(j:Nat) (a:List Bool) (d:Db) (e:Nat->Hd) (w:World) (m:Nat),j<b.length->a.length=4->oQ d m->m+eS b a<=9000000->eS b a<=f->aV w H 200 (eN x a) [] d e->bO w x l b c->¬gF e x->ko H x b f j a d e w:=by
 induction f using Nat.strongRecOn with
 | _ f IH =>
  intro j a d e w m s g q t r h p n;cases o:a.getD j true with
  | true=>exact yK H x f j b a g d e w (by have:=p.2;omega) h o
  | false=>exact zL H x l f b c i k IH j a d e w m s g q t r h p n o
structure iy(w:World)(l:List St)(H:Nat->Hd):Prop where
  YF:aB w (H 6) (jt l H)
  syms:∀i s,l[i]?=some s->aB w (H (10+2*i)) (aD s.Yc)
  prfs:∀i s,l[i]?=some s->aB w (H (11+2*i)) (iC s.Yn)
theorem aV.record(h:aV f T d m y1 t S):iy f t.Yt S:=by
  refine⟨h.YF 6,fun i s a=>?_,fun i s a=>?_⟩
  · have:=h.YF (10+2*i)
    rw[show 10+2*i=2*i+10 by omega]at this ⊢;have e:a8 t S (2*i+10)=aD s.Yc:=by simp[a8,inner,symsAt,a]
    rw[e]at this;exact this
  · have:=h.YF (11+2*i)
    rw[show 11+2*i=(2*i+1)+10 by omega]at this ⊢;have q:(2*i+1) % 2=1:=by omega
    have b:(2*i+1) / 2=i:=(by omega);have e:a8 t S ((2*i+1)+10)=iC s.Yn:=(by simp[a8,inner,uu,q,b,a]);rw[e]at this;exact this
theorem iy.keptP{P:Nat->Prop}(h:iy f M S)(k:gy P f i)(d:∀x,gF S x->¬P x):iy i M S :=
  ⟨h.YF.Ym (fun x a=>k.block x (h.YF.lt a) (d x ⟨6,a⟩)),fun c s b=>(h.syms c s b).Ym (fun x a=>k.block x ((h.syms c s b).lt a) (d x ⟨_,a⟩)),fun c s b=>(h.prfs c s b).Ym (fun x a=>k.block x ((h.prfs c s b).lt a) (d x ⟨_,a⟩))⟩
theorem iy.Yu(h:iy f M S)(k:ae z4 f i)(a:∀x,gF S x->x∉z4):iy i M S :=
  h.keptP (k.toP (P:=(·∈z4)) (fun _ b _=>b)) a
theorem iy.Yh(h:iy f M S)(k:ae [] f i):iy i M S:=h.Yu k (by simp)
def lB:Nat->Hd:=fun _=>⟨none,0⟩
theorem vq:¬gF lB s:=by rintro ⟨i,h⟩;simp[lB,Hd.Yv]at h
def IA:List Bool:=[false,false,false,false]
theorem aV.begin(h:f.heap[T]?=some (.cells (m++(cO fU lB++[])).toArray d)):aV f T d m [] fU lB:=by
  refine⟨h,?_,fun i j _=>Us rfl,fun i e=>by simp[lB,Hd.Yv]at e⟩;intro i
  match i with
  | 0=>exact Uj _ _ _ _
  | 1=>exact Uj _ _ _ _
  | 2=>exact Uj _ _ _ _
  | 3=>exact Uj _ _ _ _
  | 4=>exact Uj _ _ _ _
  | 5=>exact Uj _ _ _ _
  | 6=>exact Uj _ _ _ _
  | 7=>exact Uj _ _ _ _
  | 8=>exact Uj _ _ _ _
  | 9=>exact Uj _ _ _ _
  | n+10 =>
    have e:a8 fU lB (n+10)=if n % 2=0 then aD [] else iC []:=(by simp[a8,inner,fU,symsAt,uu]);rw[e];split
    · exact Uj _ _ _ _
    · exact Uj _ _ _ _
set_option maxRecDepth 512
theorem GB(d:Db)(a:Nat->Hd)(w:World)(h:aV w H x z6 c d a)(j:z6.length=l) :
    Calls prog 113 #[pointer (some ⟨H,l,none⟩)] w fun e t=>e=returned (agg #[slice (a 6).ao d.Yt.length (a 6).cap,slice (a 7).ao d.rbl.length (a 7).cap])/\ae [] w t:=by
  obtain⟨k,m,n,o,p,q,u,y,r,s,b,f,g⟩:=h.cells l j;clear k m n o p q r s b f g;have i:=h.lt;go_enter func113,ntmps113;go_wp2;exact Um (v:=agg #[slice (a 6).ao d.Yt.length (a 6).cap,slice (a 7).ao d.rbl.length (a 7).cap]) (by simp[results,results113,go_sem]) rfl ⟨rfl,(ae.refl _ _).alloc _⟩
theorem Cd(a:∀j,j<b.length->(ak b j).size<=1024)(c:List Bool):eS b c<=4104:=by
  have h:∀j,Pc b c j<=1026:=by
    intro j;unfold Pc;split
    · omega
    · rcases XY j b.length with h | h
      · have:=a j h;omega
      · have:(ak b j).size=0:=by unfold ak;rw[Uc,UT h];rfl
        omega
  have d:=h 0;have e:=h 1;have f:=h 2;have g:=h 3;unfold eS;omega
theorem BS(h:ae z4 f i)(b:T∈z4∨f.heap.size<=T)(a:d∈z4∨f.heap.size<=d)(c e g j k l:Value) :
    ae z4 f ((((((i.setCell ⟨T,0,none⟩ c).setCell ⟨T,1,none⟩ e).setCell ⟨d,0,none⟩ g).setCell ⟨d,1,none⟩ j).setCell ⟨d,2,none⟩ k).setCell ⟨d,3,none⟩ l) :=
  (((((h.setCell b _).setCell b _).setCell a _).setCell a _).setCell a _).setCell a _
def bP(fs:Fs)(root:Nat):Im:=dd fs 5000 root IA fU
set_option maxRecDepth 100000
theorem N8(Y:bO D H x b c)(P:l<b.length)(p:∀j,j<b.length->(ak b j).size<=1024) :
    Calls prog 80 #[pointer (some ⟨H,0,none⟩),int i64 l] D fun e Z =>
      (if((bP b l).1.1==0)=true then ∃q,e=returned (tuple #[agg #[slice (q 6).ao (bP b l).2.2.Yt.length (q 6).cap,slice (q 7).ao (bP b l).2.2.rbl.length (q 7).cap],iz dh])/\iy Z (bP b l).2.2.Yt q/\(∀k,gF q k->D.heap.size<=k)
       else e=returned (tuple #[agg #[slice none 0 0,slice none 0 0],iz (bP b l).1]))/\ae [] D Z:=by
  have ac:=Y.lt
  obtain⟨W,s⟩:∃W,W=((D.alloc (.cells #[slice none 0 0,slice none 0 0] 76)).alloc (.cells #[int i64 0,string ⟨#[]⟩,int i64 0,int i64 0] 87)).alloc (.cells #[pointer (some ⟨H,0,none⟩),bool false,bool false,bool false,bool false,
    slice none 0 0,slice none 0 0,slice none 0 0,slice none 0 0,slice none 0 0,slice none 0 0,slice none 0 0,slice none 0 0,int i64 0,string ⟨#[]⟩,slice none 0 0,bool false,slice none 0 0] 200):=⟨_,rfl⟩
  have m:ae [] D W:=by rw[s];exact((bM.alloc _).alloc _).alloc _
  have hA:W.heap[D.heap.size]?=some (.cells #[slice none 0 0,slice none 0 0] 76):=by
    rw[s];exact((bM.alloc _).alloc _).get (Ui _ _) (by simp)
  have hF:W.heap[D.heap.size+1]?=some (.cells bH 87):=by
    rw[s];have e:(D.alloc (.cells #[slice none 0 0,slice none 0 0] 76)).heap.size=D.heap.size+1:=by simp
    rw[<-e];exact(bM.alloc _).get (Ui _ _) (by simp)
  have V:aV W (D.heap.size+2) 200 (eN H IA) [] fU lB:=by
    refine aV.begin ?_;rw[s];have e:((D.alloc (.cells #[slice none 0 0,slice none 0 0] 76)).alloc (.cells #[int i64 0,string ⟨#[]⟩,int i64 0,int i64 0] 87)).heap.size=D.heap.size+2:=by simp
    rw[<-e];exact Ui _ _
  have hT:bO W H x b c:=Y.Yu m (by simp);have HW:Xr _:=s.symm;have O:=Cl (D.heap.size+2) H x b c p (by omega) 5000 l IA fU lB W 0 P rfl oQ.empty (by have:=Cd b p IA;omega) (by have:=Cd b p IA;omega) V hT (vq _);unfold ko at O;have u:Xr _:=O;clear s O;have t:Xr ((dd b 5000 l IA fU).2.1.length=4):=((Ni b 5000).2 l IA fU 0 rfl oQ.empty).1;have T:Xr (bP b l=dd b 5000 l IA fU):=rfl;rw[T.o];clear T;generalize dd b 5000 l IA fU=R at *;obtain⟨⟨r,pf,pl,pc⟩,v,F⟩:=R;simp only[iz]at u t ⊢;go_enter func80,ntmps80;go_upto_region 2 with fail
  rw[HW.o];go_wp2_with fail;refine Ug u.o ?_;rintro e w2 ⟨rfl,a,S,d⟩;have f:=d.1.get hA (by rintro (e | e);omega;exact vq _ e);have g:=d.1.get hF (by rintro (e | e);omega;exact vq _ e);have N:Xr (∀k,gF a k->D.heap.size<=k):=fun k n=>by
    rcases d.2 k n with h | h
    · exact absurd h (vq _)
    · have:=m.size;omega
  have M:Xr (∀k,gF a k->k≠D.heap.size/\k≠D.heap.size+1/\k≠D.heap.size+2):=fun k n=>by
    have ad:=V.lt;rcases d.2 k n with h | h
    · exact absurd h (vq _)
    · omega
  have U:Xr (ae [] D w2):=⟨d.1.os.trans m.os,d.1.tape.trans m.tape,d.1.output.trans m.output,Un m.size d.1.size,fun k n _=>(d.1.block k (Ul n m.size) (by rintro (e | e);omega;exact vq _ e)).trans (m.block k n (by simp))⟩;obtain⟨C,E⟩:=xx f;obtain⟨I,J,K,L⟩:=cZ g;have ya:=am f;have yf:=am g;have w:=aj f;have z:=aj g;cases X:(r==0)
  · have Q:(r != 0)=true:=by simp[bne,X]
    go_wp2_with fail;go_region
    all_goals go_wp2
    all_goals exact Um (v:=tuple #[agg #[slice none 0 0,slice none 0 0],agg #[int i64 r,string pf,int i64 pl,int i64 pc]]) (by simp[results,results80,go_sem,C,E,I,J,K,L,w,z]) rfl ⟨rfl,((BS U.o (Uo (Ue _)) (Uo (WY _)) _ _ _ _ _ _).alloc _).drew⟩
  · have Q:(r != 0)=false:=by simp[bne,X]
    go_wp2_with fail;refine(GB (D.heap.size+2) 200 5 (eN H v) [] F a _ (by exact S.Yh (bM.alloc _)) (j4 H v t.o)).mono ?_;rintro e G ⟨rfl,B⟩;have i:ae [] w2 G:=(bM.alloc _).trans B;have y:=i.get f (by simp);have A:=i.get g (by simp);have K4:Xr (ae [] D G):=U.o.trans i;have S4:Xr (iy G F.Yt a):=S.record.Yh i;clear C E I J K L ya yf B;obtain⟨C,E⟩:=xx y;obtain⟨I,J,K,L⟩:=cZ A;have ya:=am y;have yf:=am A;go_wp2;exact Um (v:=tuple #[agg #[slice (a 6).ao F.Yt.length (a 6).cap,slice (a 7).ao F.rbl.length (a 7).cap],agg #[int i64 0,string ⟨#[]⟩,int i64 0,int i64 0]]) (by simp[results,results80,go_sem,C,E,I,J,K,L]) rfl
      ⟨⟨a,rfl,S4.o.Yu (BS (ae.refl [D.heap.size,D.heap.size+1] G) (Us (by simp)) (Us (by simp)) _ _ _ _ _ _) (fun k n=>by have:=M.o k n;simp;omega),N.o⟩,
        BS K4.o (Uo (Ue _)) (Uo (WY _)) _ _ _ _ _ _⟩
structure fy(w:World)(b o:Nat)(l:List St)(H:Nat->Hd):Prop where
 cell:∃arr t,w.heap[b]?=some (.cells arr t)/\arr[o]?=some (slice (H 6).ao l.length (H 6).cap)
 Yt:iy w l H
theorem fy.at(h:fy f T d M S):f.cell? ⟨T,d,none⟩=some (slice (S 6).ao M.length (S 6).cap):=by
 obtain⟨a,t,b,c⟩:=h.cell;rw[ah b];exact c
theorem fy.lt(h:fy f T d M S):T<f.heap.size:=by
 obtain⟨a,t,b,c⟩:=h.cell;exact aj b
theorem fy.Yu(h:fy f T d M S)(k:ae z4 f i)(g:T∉z4)(e:∀x,gF S x->x∉z4):fy i T d M S:=by
 obtain⟨a,t,b,c⟩:=h.cell;exact⟨⟨a,t,k.get b g,c⟩,h.Yt.Yu k e⟩
theorem fy.Yh(h:fy f T d M S)(k:ae [] f i):fy i T d M S:=h.Yu k (by simp) (by simp)
theorem iy.stmt(h:iy f M S)(n:Nat)(l:n<M.length) :
  ∃g,(S 6).ao=some ⟨g,0,none⟩/\M.length<=(S 6).cap/\(S 6).cap<=9223372036854775807/\f.cell? ⟨g,n*8,none⟩=some (int i64 M[n].Yw)/\f.cell? ⟨g,n*8+1,none⟩=some (string M[n].Yx)/\f.cell? ⟨g,n*8+2,none⟩=some (slice (S (10+2*n)).ao M[n].Yc.length (S (10+2*n)).cap) /\
  f.cell? ⟨g,n*8+3,none⟩=some (slice (S (11+2*n)).ao M[n].Yn.length (S (11+2*n)).cap)/\f.cell? ⟨g,n*8+4,none⟩=some (string M[n].YA.YB)/\f.cell? ⟨g,n*8+5,none⟩=some (int i64 M[n].YA.YC) /\
  f.cell? ⟨g,n*8+6,none⟩=some (int i64 M[n].YA.YD)/\f.cell? ⟨g,n*8+7,none⟩=some (int i64 M[n].til):=by
 rcases h.YF.Ys with ⟨_,i,_⟩ | ⟨g,d,a,o,e,b,-⟩
 ·have:M.length=0:=i;omega
 ·have c:=fun j (k:j<8) v (m:(LB M[n] (S (10+2*n)) (S (11+2*n)))[j]?=some v)=>h.YF.cell a (n*8+j) v ((Jp M S n l j k).trans m);exact⟨g,a,e,by unfold maxLen at b;exact b,c 0 (by omega) _ rfl,c 1 (by omega) _ rfl,c 2 (by omega) _ rfl,c 3 (by omega) _ rfl,c 4 (by omega) _ rfl,c 5 (by omega) _ rfl,c 6 (by omega) _ rfl,c 7 (by omega) _ rfl⟩
set_option maxRecDepth 512
theorem fF(h:fy D x l k z5) :
  Calls prog 81 #[pointer (some ⟨x,l,none⟩)] D fun e a=>e=returned (int i64 k.length)/\a=D:=by
 have c:=h.at;go_enter func81,ntmps81;go_wp2;go_ret;exact⟨rfl,rfl⟩
def eW(s:St)(a b:Hd):Value :=
 agg #[int i64 s.Yw,string s.Yx,slice a.ao s.Yc.length a.cap,slice b.ao s.Yn.length b.cap,string s.YA.YB,int i64 s.YA.YC,int i64 s.YA.YD,int i64 s.til]
theorem bC(h:fy D H x k z5)(f:l<k.length) :
  Calls prog 98 #[pointer (some ⟨H,x,none⟩),int i64 l] D fun e i=>e=returned (eW k[l] (z5 (10+2*l)) (z5 (11+2*l)))/\ae [] D i:=by
 have c:=h.at;have b:=h.lt;obtain⟨g,a,t,u,j,m,n,o,p,q,r,s⟩:=h.Yt.stmt l f;have d:=h.Yt.YF.lt (k:=g) (by unfold Hd.Yv;rw[a];rfl);rw[a]at c;unfold eW;clear h;go_enter func98,ntmps98;go_wp2;exact Um (v:=agg #[int i64 k[l].Yw,string k[l].Yx,slice (z5 (10+2*l)).ao k[l].Yc.length (z5 (10+2*l)).cap,slice (z5 (11+2*l)).ao k[l].Yn.length (z5 (11+2*l)).cap,string k[l].YA.YB,int i64 k[l].YA.YC,int i64 k[l].YA.YD,int i64 k[l].til])
  (by simp[results,results98,go_sem]) rfl ⟨rfl,(ae.refl _ _).alloc _⟩
def fH(l:List St)(n a:Nat):Bool:=match l[n]? with | some s=>decide (n<a)&&(s.til==0||decide (a<s.til)) | none=>false
theorem PT(h:y4<k.length):fH k y4 s=(decide (y4<s)&&(k[y4].til==0||decide (s<k[y4].til))):=by
 unfold fH;rw[Ub h]
theorem iA(h:fy D o H k z5)(j:x<k.length) :
  Calls prog 188 #[pointer (some ⟨o,H,none⟩),int i64 x,int i64 l] D fun e w=>e=returned (bool (fH k x l))/\w=D:=by
 have c:=h.at;obtain⟨g,v,z,A,m,n,p,q,r,s,u,y⟩:=h.Yt.stmt x j;clear m n p q r s u;rw[v]at c;have b:Xr _:=PT k x l j;generalize k[x].til=t at *;clear h;by_cases f:x<l
 ·cases i:((t:Int)==0)
  ·have a:(t==0)=false:=by cases t <;> simp at i ⊢
   have d:Xr (fH k x l=decide (l<t)):=cM (by rw[b.o,a];simp[f]);clear b;go_enter func188,ntmps188;go_wp2;go_ret;exact⟨aE (by rw[d.o]),rfl⟩
  ·have a:(t==0)=true:=by cases t <;> simp at i ⊢ <;> omega
   have d:Xr (fH k x l=true):=cM (by rw[b.o,a];simp[f]);clear b;go_enter func188,ntmps188;go_wp2;go_ret;exact⟨aE (by rw[d.o]),rfl⟩
 ·have d:Xr (fH k x l=false):=by show _=_;rw[b.o];simp[f]
  clear b;go_enter func188,ntmps188;go_wp2;go_ret;exact⟨aE (by rw[d.o]),rfl⟩
def mW(l:List St)(lab:Xs)(a n:Nat):Bool:=match l[n]? with | some s=>(s.Yx.toList==lab.toList) && !(s.Yw==1)&&fH l n a | none=>false
def jM(l:List St)(lab:Xs)(a:Nat):Option Nat:=(List.range l.length).find? (mW l lab a)
def oM:Option Nat->Int
 | some n=>n
 | none=>-1
theorem NH(h:s<k.length):mW k zt y4 s=((k[s].Yx.toList==zt.toList) && !(k[s].Yw==1)&&fH k s y4):=by
 unfold mW;rw[Ub h]
theorem po(c:d<T)(e:yg d=true)(a:∀i,i<d->yg i=false):(List.range T).find? yg=some d :=
 Vp.2 ⟨e,by simpa using c,fun j b=>by simp[a j b]⟩
theorem nY(a:∀i,i<T->yg i=false):(List.range T).find? yg=none :=
 U8.2 (fun i b=>by simp[a i (by simpa using b)])
theorem jc(h:fy D H x k z5)(N:k.length<=1073741824) :
  Calls prog 186 #[pointer (some ⟨H,x,none⟩),string z7,int i64 l] D fun e E=>e=returned (int i64 (oM (jM k z7 l)))/\E=D:=by
 have c:=h.at;go_enter func186,ntmps186;go_wp2
 go_loopg [7] k.length (fun g i wr=>∃a:Nat,a<=k.length/\g=k.length-a/\i=int i64 a/\Xr (∀i,i<a->mW k z7 l i=false)/\wr=D)
 ·exact⟨0,by omega,by omega,rfl,fun i s=>by omega,rfl⟩
 obtain⟨a,M,L,rfl,b,rfl⟩:=hrel;by_cases d:a<k.length
 ·obtain⟨g,A,J,K,G,I,t,u,v,w,y,z⟩:=h.Yt.stmt a d;clear t u v w y z;rw[A]at c;have j:Xr _:=NH k z7 l a d;have p:Xr (fy wr H x k z5):=h;generalize k[a].Yx=C at *;generalize k[a].Yw=o at *;have next:Xr (mW k z7 l a=false->∀i,i<a+1->mW k z7 l i=false):=by
   intro B i s;by_cases e:i=a
   ·subst e;exact B
   ·exact b.o i (by omega)
  cases q:(C.toList==z7.toList)
  ·have f:Xr (mW k z7 l a=false):=(by show _=_;rw[j.o,q];simp);clear j h;go_wp2;go_roundg (k.length-(a+1))
   ·exact⟨a+1,by omega,rfl,by go_num,next.o f.o,rfl⟩
   omega
  ·cases m:(o==1)
   ·have n:(o != 1)=true:=(by simp[bne,m]);cases r:fH k a l
    ·have f:Xr (mW k z7 l a=false):=(by show _=_;rw[j.o,r];simp);clear j h;go_wp2_with (go_at_call 188;refine(iA H x a l k z5 _ p.o d).mono ?_;rintro e F ⟨rfl,rfl⟩);go_roundg (k.length-(a+1))
     ·exact⟨a+1,by omega,rfl,by go_num,next.o f.o,rfl⟩
     omega
    ·have f:Xr (jM k z7 l=some a):=po d (by rw[j.o,q,m,r];rfl) b.o;clear j h;go_wp2_with (go_at_call 188;refine(iA H x a l k z5 _ p.o d).mono ?_;rintro e F ⟨rfl,rfl⟩);go_ret;exact⟨T0 (by rw[f.o];rfl),rfl⟩
   ·have n:(o != 1)=false:=(by simp[bne,m]);have f:Xr (mW k z7 l a=false):=cM (by rw[j.o,m];simp);clear j h;go_wp2;go_roundg (k.length-(a+1))
    ·exact⟨a+1,by omega,rfl,by go_num,next.o f.o,rfl⟩
    omega
 ·have f:Xr (jM k z7 l=none):=nY (fun i s=>b.o i (by omega));clear h;go_wp2;go_ret;exact⟨T0 (by rw[f.o];rfl),rfl⟩
end Go.Proofs.YtnbhnocdhbcbcaaGreat
