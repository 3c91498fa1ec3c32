import Derived.Deep.RegionHeld3
import Derived.BigQuiet
import Derived.Test.YtnbhnocdhbcbcaaGreatK05
namespace Go.Proofs.YtnbhnocdhbcbcaaGreat
open Go.RowKit Tryz
open Value IntKind Ending
set_option maxHeartbeats 0
variable{f i g:World}{T d y5 y2 yu:Nat}{m y1:List Value}{t:Db}{S L yr:Nat->Hd}{z4:Xv}{ys:Fs}{yt:List Bool}{y9 yd:Xs}{M:List St}{yg:Nat->Bool}(N I y0 o H x l:Nat)(b:Fs)(z6:List Value)(y:List Bool)(c:List Value)(z7:Xs)(k:List St)(z5:Nat->Hd)(y3 zt:Xs)(y7:Int)(D:World)(yv yz x0 x1:Value)(y4 s:Nat)
theorem og(l c:Int)(f:Bool)(w:World) :
  Calls prog 160 #[agg #[string y3,int i64 y7,bool f,string zt,int i64 l,int i64 c]] w fun e a=>e=returned (agg #[int i64 (if f=true then 7 else y7),string zt,int i64 l,int i64 c])/\ae [] w a:=by
 cases f
 ·go_enter func160,ntmps160;go_wp2;exact Tz (v:=agg #[int i64 y7,string zt,int i64 l,int i64 c]) (by simp[results,results160,go_sem]) rfl ⟨rfl,((ae.refl _ _).alloc _).alloc _⟩
 ·go_enter func160,ntmps160;go_wp2;exact Tz (v:=agg #[int i64 7,string zt,int i64 l,int i64 c]) (by simp[results,results160,go_sem]) rfl ⟨rfl,((ae.refl _ _).alloc _).alloc _⟩
def eK(v:Nat)(bg:List Bool):List Value:=pointer (some ⟨v,0,none⟩) :: bg.map bool
theorem jT(h:y.length=4):(eK l y).length=5:=by simp[eK,h]
theorem aW.pre(h:aW f T d m y1 t S)(i:Nat)(b:i<m.length)(u:Value) :
  aW (f.setCell ⟨T,i,none⟩ u) T d (m.set i u) y1 t S/\aD T f S (f.setCell ⟨T,i,none⟩ u) S:=by
 refine⟨⟨?_,?_,h.apart,h.off⟩,(fL.refl _ _).setCell (TH (TH rfl)) _,fun _ a=>TH a⟩
 ·rw[ab h.XS,Uu,Wc _ _ b]
 ·intro j;refine(h.X9 j).XJ (fun k a=>TM _ _ _ _ ?_);rintro rfl;exact h.off j a
theorem aW.preCell(h:aW f T d m y1 t S)(i:Nat)(a:i<m.length):f.cell? ⟨T,i,none⟩=m[i]?:=by
 rw[ah h.XS];simp[List.getElem?_append_left a]
def gD(b sp:Nat)(w:World)(H:Nat->Hd)(w':World)(H':Nat->Hd):Prop :=
 fL (fun k=>k=b∨k=sp∨ik H k) w w'/\∀k,ik H' k->ik H k∨w.heap.size<=k
theorem aD.XJ{w':World}(t:aD T f S w' L):gD T s f S w' L :=
 ⟨⟨t.1.os,t.1.tape,t.1.output,t.1.size,fun k a b=>t.1.block k a (fun e=>b (e.elim TH (fun e=>TE (TE e))))⟩,t.2⟩
theorem gD.trans{w1:World}(a:gD T d f S w1 L)(c:gD T d w1 L i yr):gD T d f S i yr:=by
 refine⟨⟨c.1.os.trans a.1.os,c.1.tape.trans a.1.tape,c.1.output.trans a.1.output,TF a.1.size c.1.size,?_⟩,?_⟩
 ·intro k b g;rw[<-a.1.block k b g];refine c.1.block k (Tw b a.1.size) ?_;rintro (e | e | j)
  ·exact g (TH e)
  ·exact g (TE (TH e))
  ·rcases a.2 k j with h | h
   ·exact g (TE (TE h))
   ·omega
 ·intro k b;rcases c.2 k b with h | h
  ·exact a.2 k h
  ·exact TE (TF a.1.size h)
theorem gD.refl(H:Nat->Hd):gD x l D H D H:=⟨fL.refl _ _,fun _ a=>TH a⟩
theorem gD.XE(a:gD T d f S i L)(c:ae [] i g):gD T d f S g L :=
 a.trans ⟨c.toP (by simp),fun _ b=>TH b⟩
theorem gD.first(c:ae [] f i)(a:gD T d i S g L):gD T d f S g L :=
 gD.trans ⟨c.toP (by simp),fun _ b=>TH b⟩ a
theorem gD.scan(a:gD T d f S i L)(c:ae [d] i g):gD T d f S g L :=
 a.trans ⟨c.toP (by intro k b _;simp at b;exact TE (TH b)),fun _ b=>TH b⟩
theorem gD.beyond(a:gD T d f S i L)(k:ae z4 i g)(e:∀x,x∈z4->f.heap.size<=x):gD T d f S g L :=
 ⟨⟨k.os.trans a.1.os,k.tape.trans a.1.tape,k.output.trans a.1.output,TF a.1.size k.size,fun b c l=>by
  rw[<-a.1.block b c l];exact k.block b (Tw c a.1.size) (fun j=>by have:=e b j;omega)⟩,a.2⟩
theorem gD.fresh(a:gD T d f S i L)(F:Nat)(e:F<f.heap.size)(b:¬ik S F):¬ik L F:=by
 intro c;rcases a.2 F c with h | h
 ·exact b h
 ·omega
theorem aD.fresh(a:aD T f S i L)(F:Nat)(d:F<f.heap.size)(b:¬ik S F):¬ik L F:=by
 intro c;rcases a.2 F c with h | h
 ·exact b h
 ·omega
theorem jR{w:World}{r:Nat}:ae [r] w ((((w.setCell ⟨r,0,none⟩ yv).setCell ⟨r,1,none⟩ yz).setCell ⟨r,2,none⟩ x0).setCell ⟨r,3,none⟩ x1) :=
 ((((ae.refl _ _).sl1 _).sl1 _).sl1 _).sl1 _
theorem Gn(a b:Value):ae [T] f ((((((f.setCell ⟨T,0,none⟩ yv).setCell ⟨T,1,none⟩ yz).setCell ⟨T,2,none⟩ x0).setCell ⟨T,3,none⟩ x1).setCell ⟨T,4,none⟩ a).setCell ⟨T,5,none⟩ b) :=
 ((((((ae.refl _ _).sl1 _).sl1 _).sl1 _).sl1 _).sl1 _).sl1 _
def bK:Array Value:=#[int i64 0,string ⟨#[]⟩,int i64 0,int i64 0]
theorem cQ(h:f.heap[T]?=some (.cells bK 87)) :
  f.cell? ⟨T,0,none⟩=some (int i64 0)/\f.cell? ⟨T,1,none⟩=some (string ⟨#[]⟩)/\f.cell? ⟨T,2,none⟩=some (int i64 0)/\f.cell? ⟨T,3,none⟩=some (int i64 0):=by
 refine⟨?_,?_,?_,?_⟩ <;> (rw[ah h];rfl)
theorem oU{F:Nat}(D:aW i T d m y1 t L)(b:aD T f S i L)(a:f.heap.size<=F)(k:T≠F)(l:¬ik L F)(c e g j:Value) :
  aW ((((i.setCell ⟨F,0,none⟩ c).setCell ⟨F,1,none⟩ e).setCell ⟨F,2,none⟩ g).setCell ⟨F,3,none⟩ j) T d m y1 t L /\
  aD T f S ((((i.setCell ⟨F,0,none⟩ c).setCell ⟨F,1,none⟩ e).setCell ⟨F,2,none⟩ g).setCell ⟨F,3,none⟩ j) L:=by
 refine⟨D.XR (jR _ _ _ _) (by simpa using k) (fun x n=>by simp;rintro rfl;exact l n),?_,b.2⟩;exact(((b.1.setCell (TE a) _).setCell (TE a) _).setCell (TE a) _).setCell (TE a) _
set_option maxRecDepth 100000
theorem vu(E:y.length=4)(d:Db)(q:Nat->Hd)(sp:Value)(j n:Xs)(i c:Int)(w:World)(h:aW w H x (eK l y) [] d q)(hs:gF d 10000000)(hx:j.size<=1073741824)(hi:Cv d 100000000)(hn:(j.toList == [36,91])=false) :
  Calls prog 158 #[pointer (some ⟨H,0,none⟩),sp,agg #[string j,int i64 0,bool false,string n,int i64 i,int i64 c]] w fun e g =>
   e=returned (iw (if((aZ d j ⟨n,i,c⟩).1==0)=true then cZ else((aZ d j ⟨n,i,c⟩).1,⟨n,i,c⟩))) /\
   ∃O,aW g H x (eK l y) [] (aZ d j ⟨n,i,c⟩).2 O/\aD H w q g O:=by
 have ac:=h.lt;have C:=fun(g:World) (h':aW g H x (eK l y) [] d q)=>Oj H x 5 (eK l y) [] d q j n i c g h' (jT l y E) hs hx hi;unfold i8 at C;have u:Xr _:=C;clear C;generalize aZ d j ⟨n,i,c⟩=td at *;obtain⟨r,d'⟩:=td;simp only at u;obtain⟨W,B⟩:∃W,W=((w.alloc (.cells #[string j,int i64 0,bool false,string n,int i64 i,int i64 c] 255)).alloc (.cells #[int i64 0,string ⟨#[]⟩,int i64 0,int i64 0] 87)):=⟨_,rfl⟩
 have S:ae [] w W:=by rw[B];exact((ae.refl [] w).alloc _).alloc _
 have P:aW W H x (eK l y) [] d q:=h.XE S;have R:W.heap[w.heap.size]?=some (.cells #[string j,int i64 0,bool false,string n,int i64 i,int i64 c] 255):=by
  rw[B];exact(bR.alloc _).get (Tu _ _) (by simp)
 have Q:W.heap[w.heap.size+1]?=some (.cells bK 87):=by
  rw[B];have:=Tu (w.alloc (.cells #[string j,int i64 0,bool false,string n,int i64 i,int i64 c] 255)) (.cells #[int i64 0,string ⟨#[]⟩,int i64 0,int i64 0] 87);simpa [bK] using this
 have t:Xr (∀k,w.heap.size<=k->¬(k=H∨ik q k)):=by
  rintro k hk (e | G)
  ·omega
  ·have:=h.inlt G;omega
 have U:Xr _:=B.symm;clear B h;obtain⟨i0,-,-,i3,i4,i5⟩:=JC R
 have z:=(show Xr _ from fun(a:World) (b:Nat->Hd) (v:aW a H x (eK l y) [] d' b) (f:aD H W.drew q a b) (V X Y Z:Value) =>
  oU v ((f.first (ae.refl [] W).drew).first S) (F:=w.heap.size+1) (by omega) (by omega) (f.fresh (w.heap.size+1) (by exact aj Q) (fun G=>t.o (w.heap.size+1) (by omega) (TE G))) V X Y Z)
 have s:Xr _:=fun(a:World) (b:Nat->Hd) (f:aD H W.drew q a b)=>(show _/\_ from⟨f.1.get (by exact R) (t.o _ (Tq _)),f.1.get (by exact Q) (t.o _ (by omega))⟩)
 have N:∀(a:World) (b:Nat->Hd) (_:aD H W.drew q a b),a.cell? ⟨w.heap.size,0,none⟩=some (string j)/\a.cell? ⟨w.heap.size,3,none⟩=some (string n)/\a.cell? ⟨w.heap.size,4,none⟩=some (int i64 i)/\a.cell? ⟨w.heap.size,5,none⟩=some (int i64 c):=by
  intro a b f;have D:=(s.o a b f).1;refine⟨?_,?_,?_,?_⟩ <;> (rw[ah D];rfl)
 have A:Xr _:=N;clear N;go_enter func158,ntmps158;go_upto_region 1 with fail
 rw[U.o];go_upto_region 3 with fail
 cases T:(r==0)
 ·have I:(r != 0)=true:=by simp[bne,T]
  go_region_held3 (fun g=>g.cell? ⟨w.heap.size,0,none⟩=some (string j)/\g.cell? ⟨w.heap.size,3,none⟩=some (string n)/\g.cell? ⟨w.heap.size,4,none⟩=some (int i64 i)/\g.cell? ⟨w.heap.size,5,none⟩=some (int i64 c)) (go_keep) (first | (go_at_call 207;refine(u.o _ (by exact P.XE bR.drew)).mono ?_;rintro e a ⟨rfl,b,v,f⟩;obtain⟨r0,r3,r4,r5⟩:=A.o a b f))
  all_goals
   have p:=(s.o a b f).2;have m:Xr _:=z.o a b v f;obtain⟨J,K,L,M⟩:=cQ p;have ad:=am p;go_wp2;exact Tz (v:=agg #[int i64 r,string n,int i64 i,int i64 c]) (by simp[results,results158,go_sem,J,K,L,M]) rfl
    ⟨rfl,b,(m.o _ _ _ _).1,(m.o _ _ _ _).2⟩
 ·have I:(r != 0)=false:=by simp[bne,T]
  go_region_held3 (fun g=>g.cell? ⟨w.heap.size,0,none⟩=some (string j)/\g.cell? ⟨w.heap.size,3,none⟩=some (string n)/\g.cell? ⟨w.heap.size,4,none⟩=some (int i64 i)/\g.cell? ⟨w.heap.size,5,none⟩=some (int i64 c)) (go_keep) (first | (go_at_call 207;refine(u.o _ (by exact P.XE bR.drew)).mono ?_;rintro e a ⟨rfl,b,v,f⟩;obtain⟨r0,r3,r4,r5⟩:=A.o a b f))
  all_goals
   have p:=(s.o a b f).2;have m:Xr _:=z.o a b v f;obtain⟨J,K,L,M⟩:=cQ p;have ad:=am p;go_wp2;exact Tz (v:=agg #[int i64 0,string ⟨#[]⟩,int i64 0,int i64 0]) (by simp[results,results158,go_sem,J,K,L,M]) rfl
    ⟨rfl,b,(m.o _ _ _ _).1,(m.o _ _ _ _).2⟩
def j9(b v:Nat)(fs:Fs)(f j:Nat)(bg:List Bool)(d:Db)(H:Nat->Hd)(w:World):Prop :=
 Calls prog 112 #[pointer (some ⟨b,0,none⟩),int i64 j] w fun e w'=>e=returned (iw (cW fs f j bg d).1)/\∃H',aW w' b 200 (eK v (cW fs f j bg d).2.1) [] (cW fs f j bg d).2.2 H'/\aD b w H w' H'
theorem kR{F:Nat}(D:aW i T d m y1 t L)(g:gD T y5 f S i L)(j:f.heap.size<=F)(k:T≠F)(l:¬ik L F)(a b c e:Value) :
  aW ((((i.setCell ⟨F,0,none⟩ a).setCell ⟨F,1,none⟩ b).setCell ⟨F,2,none⟩ c).setCell ⟨F,3,none⟩ e) T d m y1 t L /\
  gD T y5 f S ((((i.setCell ⟨F,0,none⟩ a).setCell ⟨F,1,none⟩ b).setCell ⟨F,2,none⟩ c).setCell ⟨F,3,none⟩ e) L :=
 ⟨D.XR (jR _ _ _ _) (by simpa using k) (fun x n=>by simp;rintro rfl;exact l n),g.beyond (jR _ _ _ _) (by simpa using j)⟩
theorem se(f:Bool)(p:Nat):iw (jx z7 y3 ⟨zt,y7,f,p⟩)=agg #[int i64 (if f=true then 7 else y7),string z7,int i64 (aU y3 p),int i64 (bJ y3 p)]:=rfl
structure tB(w w':World)(b v tt sp z:Nat)(fs:Fs)(more:List Value)(bg:List Bool)(d:Db)(H:Nat->Hd)(n s:Xs):Prop where
 D:aW w' b 200 (eK v bg) [] d H
 TB:bO w' v tt fs more
 SC:cg w' sp n s z
 F:w'.heap[w.heap.size+1]?=some (.cells bK 87)
 M:gD b sp w H w' H
theorem tB.XE(a:tB f i T d y5 y2 yu ys m yt t S y9 yd)(k:ae [] i g):tB f g T d y5 y2 yu ys m yt t S y9 yd :=
 ⟨a.D.XE k,a.TB.XR k (by simp),a.SC.XR k (by simp),k.get a.F (by simp),a.M.XE k⟩
theorem tB.next{b:Nat}(a:tB f i T d y5 y2 yu ys m yt t S y9 yd)(k:ae [y2] i g)(c:cg g y2 y9 yd b)(j:y2≠T)(l:d≠y2)(n:¬ik S y2)(p:y2<f.heap.size):tB f g T d y5 y2 b ys m yt t S y9 yd :=
 ⟨a.D.XR k (by simpa using fun e=>j e.symm) (by intro x o;simp;rintro rfl;exact n o),a.TB.XR k (by simpa using l),c,k.get a.F (by simp;omega),a.M.scan k⟩
theorem Dl(a7:y.length=4)(d:Db)(v:Nat->Hd)(n s:Xs)(u c:Int)(w:World)(h:aW w N 200 (eK I y) [] d v)(hn:aG b x=n)(bv:ak b x=s)(hs:s.size<=1024)(hz:l<=s.size)(ap:cg w o n s l)(ht:bO w I y0 b z6)(V:o≠N)(bf:I≠o)(ar:¬ik v o)(RF:Xr (∀(j:Nat) (w':World),j<b.length->aW w' N 200 (eK I y) [] d v->bO w' I y0 b z6->j9 N I b H j y d v w')) :
  Calls prog 206 #[pointer (some ⟨N,0,none⟩),pointer (some ⟨o,0,none⟩),agg #[string n,int i64 u,int i64 c]] w fun e w' =>
   e=returned (iw (oe (cW b H) b x l ⟨n,u,c⟩ y d).1.1)/\∃H',aW w' N 200 (eK I (oe (cW b H) b x l ⟨n,u,c⟩ y d).1.2.1) [] (oe (cW b H) b x l ⟨n,u,c⟩ y d).1.2.2 H'/\gD N o w v w' H' /\
    (((oe (cW b H) b x l ⟨n,u,c⟩ y d).1.1.1==0)=true->cg w' o n s (oe (cW b H) b x l ⟨n,u,c⟩ y d).2):=by
 obtain⟨W,hW⟩:∃W,W=((w.alloc (.cells #[string n,int i64 u,int i64 c] 36)).alloc (.cells #[int i64 0,string ⟨#[]⟩,int i64 0,int i64 0] 87)):=⟨_,rfl⟩
 have hK:ae [] w W:=by rw[hW];exact((ae.refl [] w).alloc _).alloc _
 have b5:=h.lt;have ai:=aj ap;have D:aW W N 200 (eK I y) [] d v:=h.XE hK;have SC:cg W o n s l:=ap.XR hK (by simp);have TB:bO W I y0 b z6:=ht.XR hK (by simp);have hP:W.heap[w.heap.size]?=some (.cells #[string n,int i64 u,int i64 c] 36):=by
  rw[hW];exact(bR.alloc _).get (Tu _ _) (by simp)
 have hF:W.heap[w.heap.size+1]?=some (.cells bK 87):=by
  rw[hW];have:=Tu (w.alloc (.cells #[string n,int i64 u,int i64 c] 36)) (.cells #[int i64 0,string ⟨#[]⟩,int i64 0,int i64 0] 87);simpa [bK] using this
 have A:Xr (∀k,w.heap.size<=k->¬ik v k):=fun k hk hm=>by have:=h.inlt hm;omega
 have HW:Xr _:=hW.symm;have b3:=aj hF;have MK:Xr (gD N o w v W v):=(gD.refl N o w v).XE hK;clear hW h ap ht;have G:Xr (oe (cW b H) b x l ⟨n,u,c⟩ y d=match sP b x l ⟨n,u,c⟩ d with | .inl q=>((q,y,d),l) | .inr (j,z')=>(cW b H j y d,z')):=rfl;have z:Xr (sP b x l ⟨n,u,c⟩ d=_):=(show sP b x l ⟨n,u,c⟩ d=_ from by unfold sP;rw[hn,bv])
 cases ho:lM d
 ·have av:=gq s l hz;have bz:=sV s l hs;have bj:=gq s (aC s l).2 av.2.1;have bc:=qC (aC s l).1.text b;generalize hr1:aC s l=r1 at *;obtain⟨⟨X,u1,f1,C⟩,z1⟩:=r1;simp only at av bz bj bc z;have bT:=sV s z1 hs;generalize hr2:aC s z1=r2 at *;obtain⟨⟨t2,u2,f2,Q⟩,z2⟩:=r2;simp only at bj bT z;rw[ho]at z;have S0:tB w W N I y0 o l b z6 y d v n s:=⟨D,TB,SC,hF,MK.o⟩;go_enter func206,ntmps206;go_upto_region 1 with fail
  rw[HW.o];go_wp2_with fail;refine(uh N 200 5 (eK I y) [] d v _ D (jT I y a7)).mono ?_;rintro e w1 ⟨rfl,t⟩;subst t;rw[ho];go_wp2_with fail;refine(ug o l n s _ hs hz SC).mono ?_;rintro e w2 ⟨rfl,Y,bd⟩;rw[hr1]at Y ⊢;simp only[fN]at Y ⊢;have S2:=S0.next bd Y V bf ar ai;obtain⟨W3,ac⟩:∃W3,W3=w2.alloc (.cells #[string X,int i64 u1,bool f1,string n,int i64 (aU s C),int i64 (bJ s C)] 255):=⟨_,rfl⟩
  have aS:Xr _:=ac.symm;have S3:tB w W3 N I y0 o z1 b z6 y d v n s:=by rw[ac];exact S2.XE (bR.alloc _)
  have I3:jY W3 w2.heap.size n s ⟨X,u1,f1,C⟩:=by rw[ac];exact Tu _ _
  clear ac S0 S2 Y bd D TB SC hP hF hK HW hr1;go_upto_region 4 with fail
  rw[aS.o];clear aS;obtain⟨g,i,m,p,a4,a5⟩:=I3.cells;go_wp2_with fail;refine(dm X n u1 (aU s C) (bJ s C) f1 _).mono ?_;rintro e w4 ⟨rfl,an⟩;have J:=S3.XE an;have I4:=I3.XR an (by simp);clear g i m p a4 a5 S3 I3 an;obtain⟨g,i,m,p,a4,a5⟩:=I4.cells;have b4:=aj I4;have b1:=aj J.F;cases t:(u1==0 && !f1)
  ·have f:Xr (oe (cW b H) b x l ⟨n,u,c⟩ y d=((jx n s ⟨X,u1,f1,C⟩,y,d),l)):=by
    show _=_;rw[G.o,z.o];simp[aM,t]
   clear G z;go_wp2_with fail;refine(og X n u1 (aU s C) (bJ s C) f1 _).mono ?_;rintro e w5 ⟨rfl,br⟩;obtain⟨q,hq⟩:∃q:Int,Xr ((if f1=true then(7:Int) else u1)=q):=⟨_,rfl⟩
   rw[hq.o];have S:=J.XE br;obtain⟨K,L,O,P⟩:=cQ S.F;have ax:=am S.F;have a:Xr _:=(fun g i m p=>kR S.D S.M (F:=w.heap.size+1) (by omega) (by omega) (A.o _ (by omega)) g i m p);clear g i m p a4 a5;go_wp2;exact Tz (v:=agg #[int i64 q,string n,int i64 (aU s C),int i64 (bJ s C)]) (by simp[results,results206,go_sem,K,L,O,P]) rfl
    ⟨by rw[f.o,se,hq.o],v,by rw[f.o];exact(a.o _ _ _ _).1,(a.o _ _ _ _).2,by
     rw[f.o];intro B
     exfalso
     simp only[jx]at B;cases f1
     ·simp at t B;exact t B
     ·simp at B⟩
  ·have bw:u1=0:=(by simp at t;exact t.1);have bo:f1=false:=(by simp at t;exact t.2);subst bw bo;cases U:dD X
   ·have b0:w4.cell? ⟨N,0,none⟩=some (pointer (some ⟨I,0,none⟩)):=J.D.preCell 0 (by simp[eK]);rcases bc with ag | ⟨j,hj,af⟩
    ·have f:Xr (oe (cW b H) b x l ⟨n,u,c⟩ y d=(((6,lq n s C),y,d),l)):=by
      show _=_;rw[G.o,z.o];simp[aM,U,ag]
     clear G z;(go_upto_region 8 with (go_at_call 232;refine(fc X _ (by omega)).mono ?_;rintro e w5 ⟨rfl,rfl⟩));go_quiet ((go_at_call 51;exact T0 (mv I y0 b z6 X _ (J.XE (bR.drewN _)).TB)));have S:=J.XE (bR.drewN nq);rw[ag];obtain⟨K,L,O,P⟩:=cQ J.F;have ax:=am J.F;have a:Xr _:=(fun g i m p=>kR S.D S.M (F:=w.heap.size+1) (by omega) (by omega) (A.o _ (by omega)) g i m p);go_wp2;exact Tz (v:=agg #[int i64 6,string n,int i64 (aU s C),int i64 (bJ s C)]) (by simp[results,results206,go_sem,K,L,O,P]) rfl
      ⟨by rw[f.o];rfl,v,by rw[f.o];exact(a.o _ _ _ _).1,(a.o _ _ _ _).2,by rw[f.o];intro B;cases B⟩
    ·(go_upto_region 8 with (go_at_call 232;refine(fc X _ (by omega)).mono ?_;rintro e w5 ⟨rfl,rfl⟩));go_quiet ((go_at_call 51;exact T0 (mv I y0 b z6 X _ (J.XE (bR.drewN _)).TB)));rw[af];have S:=J.XE (bR.drewN nq);go_wp2_with fail;refine(ug o z1 n s _ hs av.2.1 S.SC).mono ?_;rintro e w6 ⟨rfl,Z,be⟩;rw[hr2]at Z ⊢;simp only[fN]at Z ⊢;have S6:=S.next be Z V bf ar ai;obtain⟨W7,ad⟩:∃W7,W7=w6.alloc (.cells #[string t2,int i64 u2,bool f2,string n,int i64 (aU s Q),int i64 (bJ s Q)] 255):=⟨_,rfl⟩
     have aT:Xr _:=ad.symm;have S7:tB w W7 N I y0 o z2 b z6 y d v n s:=(by rw[ad];exact S6.XE (bR.alloc _));have I7:jY W7 w6.heap.size n s ⟨t2,u2,f2,Q⟩:=(by rw[ad];exact Tu _ _);clear ad J S S6 Z be I4 g i m p a4 a5 b0;(go_upto_region 12 with fail);rw[aT.o];clear aT;obtain⟨g,i,m,p,a4,a5⟩:=I7.cells;go_wp2_with fail;refine(dm t2 n u2 (aU s Q) (bJ s Q) f2 _).mono ?_;rintro e w8 ⟨rfl,ao⟩;have T:=S7.XE ao;have I8:=I7.XR ao (by simp);clear g i m p a4 a5 S7 I7 ao;obtain⟨g,i,m,p,a4,a5⟩:=I8.cells;have a6:=aj T.F;have al:¬((j:Int)<0):=by omega
     cases E:(u2==0 && !f2)
     ·have f:Xr (oe (cW b H) b x l ⟨n,u,c⟩ y d=((jx n s ⟨t2,u2,f2,Q⟩,y,d),l)):=by
       show _=_;rw[G.o,z.o,af];simp[aM,U,E,al]
      clear G z;go_wp2_with fail;refine(og t2 n u2 (aU s Q) (bJ s Q) f2 _).mono ?_;rintro e w9 ⟨rfl,bs⟩;obtain⟨q,hq⟩:∃q:Int,Xr ((if f2=true then(7:Int) else u2)=q):=⟨_,rfl⟩
      rw[hq.o];have S9:=T.XE bs;obtain⟨K,L,O,P⟩:=cQ S9.F;have ax:=am S9.F;have a:Xr _:=(fun g i m p=>kR S9.D S9.M (F:=w.heap.size+1) (by omega) (by omega) (A.o _ (by omega)) g i m p);clear g i m p a4 a5;go_wp2;exact Tz (v:=agg #[int i64 q,string n,int i64 (aU s Q),int i64 (bJ s Q)]) (by simp[results,results206,go_sem,K,L,O,P]) rfl
       ⟨by rw[f.o,se,hq.o],v,by rw[f.o];exact(a.o _ _ _ _).1,(a.o _ _ _ _).2,by
        rw[f.o];intro B
        exfalso
        simp only[jx]at B;cases f2
        ·simp at E B;exact E B
        ·simp at B⟩
     ·have bx:u2=0:=(by simp at E;exact E.1);have bp:f2=false:=(by simp at E;exact E.2);subst bx bp;cases ba:(t2.toList == [36,93])
      ·have f:Xr (oe (cW b H) b x l ⟨n,u,c⟩ y d=(((5,lq n s Q),y,d),l)):=by
        show _=_;rw[G.o,z.o,af];simp[aM,U,ba,al]
       clear G z;obtain⟨K,L,O,P⟩:=cQ T.F;have ax:=am T.F;have a:Xr _:=(fun g i m p=>kR T.D T.M (F:=w.heap.size+1) (by omega) (by omega) (A.o _ (by omega)) g i m p);go_wp2;exact Tz (v:=agg #[int i64 5,string n,int i64 (aU s Q),int i64 (bJ s Q)]) (by simp[results,results206,go_sem,K,L,O,P]) rfl
        ⟨by rw[f.o];rfl,v,by rw[f.o];exact(a.o _ _ _ _).1,(a.o _ _ _ _).2,by rw[f.o];intro B;cases B⟩
      ·have f:Xr (oe (cW b H) b x l ⟨n,u,c⟩ y d=(cW b H j y d,z2)):=by
        show _=_;rw[G.o,z.o,af];simp[aM,U,ba,al]
       clear G z;have RJ:=RF.o j w8 hj T.D T.TB;unfold j9 at RJ;have az:Xr _:=RJ;clear RJ RF;generalize cW b H j y d=R at *;obtain⟨⟨r,pf,pl,pc⟩,b2,d'⟩:=R;simp only[iw]at az;go_wp2_with fail;refine Ts az.o ?_;rintro e w9 ⟨rfl,H9,D9,T9⟩;have F9:=T9.1.get T.F (by rintro (e | e);omega;exact A.o _ (by omega) e);have bl:cg w9 o n s z2:=T9.1.get T.SC (by rintro (e | e);exact V e;exact ar e);obtain⟨K,L,O,P⟩:=cQ F9;have ax:=am F9;have a:Xr _:=(fun g i m p=>kR D9 (T.M.trans (T9.XJ o)) (F:=w.heap.size+1) (by omega) (by omega) (T9.fresh _ a6 (A.o _ (by omega))) g i m p);have bk:Xr _:=(fun g i m p=>bl.XR (jR (r:=w.heap.size+1) g i m p) (by simp;omega));clear g i m p a4 a5;go_wp2;exact Tz (v:=agg #[int i64 r,string pf,int i64 pl,int i64 pc]) (by simp[results,results206,go_sem,K,L,O,P]) rfl
        ⟨by rw[f.o];rfl,H9,by rw[f.o];exact(a.o _ _ _ _).1,(a.o _ _ _ _).2,by rw[f.o];exact fun _=>bk.o _ _ _ _⟩
   ·have f:Xr (oe (cW b H) b x l ⟨n,u,c⟩ y d=(((5,lq n s C),y,d),l)):=by
     show _=_;rw[G.o,z.o];simp[aM,U]
    clear G z;obtain⟨K,L,O,P⟩:=cQ J.F;have ax:=am J.F;have a:Xr _:=(fun g i m p=>kR J.D J.M (F:=w.heap.size+1) (by omega) (by omega) (A.o _ (by omega)) g i m p);go_wp2_with (go_at_call 232;refine(fc X _ (by omega)).mono ?_;rintro e w5 ⟨rfl,rfl⟩);exact Tz (v:=agg #[int i64 5,string n,int i64 (aU s C),int i64 (bJ s C)]) (by simp[results,results206,go_sem,K,L,O,P]) rfl
     ⟨by rw[f.o];rfl,v,by rw[f.o];exact(a.o _ _ _ _).1,(a.o _ _ _ _).2,by rw[f.o];intro B;cases B⟩
 ·have f:Xr (oe (cW b H) b x l ⟨n,u,c⟩ y d=(((4,⟨n,u,c⟩),y,d),l)):=by
   show _=_;rw[G.o,z.o,ho];simp
  clear G z;obtain⟨i0,i1,i2⟩:=wn hP;obtain⟨K,L,O,P⟩:=cQ hF;have ax:=am hF;have a:Xr _:=(fun g i m p=>kR D MK.o (F:=w.heap.size+1) (by omega) (by omega) (A.o _ (by omega)) g i m p);go_enter func206,ntmps206;go_upto_region 1 with fail
  rw[HW.o];go_wp2_with fail;refine(uh N 200 5 (eK I y) [] d v _ D (jT I y a7)).mono ?_;rintro e w1 ⟨rfl,t⟩;subst t;rw[ho];go_wp2;exact Tz (v:=agg #[int i64 4,string n,int i64 u,int i64 c]) (by simp[results,results206,go_sem,K,L,O,P]) rfl
   ⟨by rw[f.o];rfl,v,by rw[f.o];exact(a.o _ _ _ _).1,(a.o _ _ _ _).2,by rw[f.o];intro B;cases B⟩
theorem BO(A:y.length=4)(d:Db)(f:Nat->Hd)(n s t:Xs)(a c:Int)(w:World)(h:aW w N 200 (eK I y) [] d f)(hn:aG b x=n)(V:ak b x=s)(hs:s.size<=1024)(hz:l<=s.size)(m:cg w o n s l)(ht:bO w I y0 b z6)(g:o≠N)(Z:I≠o)(C:¬ik f o)(X:gF d 10000000)(Y:t.size<=1073741824)(U:Cv d 100000000)(RF:Xr (∀(j:Nat) (i:World),j<b.length->aW i N 200 (eK I y) [] d f->bO i I y0 b z6->j9 N I b H j y d f i)) :
  Calls prog 158 #[pointer (some ⟨N,0,none⟩),pointer (some ⟨o,0,none⟩),agg #[string t,int i64 0,bool false,string n,int i64 a,int i64 c]] w fun e i =>
   e=returned (iw (kt (cW b H) b x l t ⟨n,a,c⟩ y d).1.1)/\∃D,aW i N 200 (eK I (kt (cW b H) b x l t ⟨n,a,c⟩ y d).1.2.1) [] (kt (cW b H) b x l t ⟨n,a,c⟩ y d).1.2.2 D/\gD N o w f i D /\
    (((kt (cW b H) b x l t ⟨n,a,c⟩ y d).1.1.1==0)=true->cg i o n s (kt (cW b H) b x l t ⟨n,a,c⟩ y d).2):=by
 cases T:(t.toList == [36,91])
 ·have E:kt (cW b H) b x l t ⟨n,a,c⟩ y d=((if((aZ d t ⟨n,a,c⟩).1==0)=true then cZ else((aZ d t ⟨n,a,c⟩).1,⟨n,a,c⟩),y,(aZ d t ⟨n,a,c⟩).2),l):=by
   unfold kt;rw[T];simp
  rw[E];refine(vu N 200 I y A d f _ t n a c w h X Y U T).mono ?_;rintro e i ⟨rfl,D,D',T'⟩;exact⟨rfl,D,D',T'.XJ o,fun _=>T'.1.get m (by rintro (e | e);exact g e;exact C e)⟩
 ·have E:kt (cW b H) b x l t ⟨n,a,c⟩ y d=oe (cW b H) b x l ⟨n,a,c⟩ y d:=by
   unfold kt;rw[T];simp
  rw[E];obtain⟨W,z⟩:∃W,W=((w.alloc (.cells #[string t,int i64 0,bool false,string n,int i64 a,int i64 c] 255)).alloc (.cells #[int i64 0,string ⟨#[]⟩,int i64 0,int i64 0] 87)):=⟨_,rfl⟩
  have G:ae [] w W:=by rw[z];exact((ae.refl [] w).alloc _).alloc _
  have af:=h.lt;have ac:=aj m;have hI:W.heap[w.heap.size]?=some (.cells #[string t,int i64 0,bool false,string n,int i64 a,int i64 c] 255):=by
   rw[z];exact(bR.alloc _).get (Tu _ _) (by simp)
  have hF:W.heap[w.heap.size+1]?=some (.cells bK 87):=by
   rw[z];have:=Tu (w.alloc (.cells #[string t,int i64 0,bool false,string n,int i64 a,int i64 c] 255)) (.cells #[int i64 0,string ⟨#[]⟩,int i64 0,int i64 0] 87);simpa [bK] using this
  obtain⟨i0,-,-,i3,i4,i5⟩:=JC hI;have IC:=Dl N I y0 o H x l b z6 y A d f n s a c W (h.XE G) hn V hs hz (m.XR G (by simp)) (ht.XR G (by simp)) g Z C RF;have q:Xr _:=IC;have u:Xr (∀k,w.heap.size<=k->¬ik f k):=fun k hk hm=>by have:=h.inlt hm;omega
  have HW:Xr _:=z.symm;have Q:=aj hF;clear z IC RF E h;generalize oe (cW b H) b x l ⟨n,a,c⟩ y d=R at *;obtain⟨⟨⟨r,pf,pl,pc⟩,ad,d'⟩,z'⟩:=R;simp only[iw]at q ⊢;go_enter func158,ntmps158;go_upto_region 1 with fail
  rw[HW.o];go_wp2_with fail;refine Ts q.o ?_;rintro e w2 ⟨rfl,H2,D2,K,B⟩;have v:=K.1.get hF (by rintro (e | e | e);omega;omega;exact u.o _ (by omega) e);obtain⟨j0,j1,j2,j3⟩:=cQ v;have ag:=am v;have p:Xr _:=(fun L M O P=>kR D2 (K.first G) (F:=w.heap.size+1) (by omega) (by omega) (K.fresh _ Q (u.o _ (by omega))) L M O P);have J:Xr _:=(fun L M O P S=>(B S).XR (jR (r:=w.heap.size+1) L M O P) (by simp;omega));clear B i0 i3 i4 i5;go_wp2;exact Tz (v:=agg #[int i64 r,string pf,int i64 pl,int i64 pc]) (by simp[results,results158,go_sem,j0,j1,j2,j3]) rfl
   ⟨rfl,H2,(p.o _ _ _ _).1,(p.o _ _ _ _).2,fun S=>J.o _ _ _ _ S⟩
set_option maxRecDepth 512
theorem DD :
  Calls prog 154 #[agg #[string y3,string zt]] D fun e a=>∃s,e=returned (pointer (some ⟨s,0,none⟩))/\D.heap.size<=s/\cg a s y3 zt 0/\ae [] D a:=by
 go_enter func154,ntmps154;go_wp2;go_ret;refine⟨D.heap.size+1,rfl,by omega,?_,((ae.refl _ _).alloc _).alloc _⟩;have:=Tu (D.alloc (.cells #[string y3,string zt] 68)) (.cells #[string y3,string zt,int i64 0,int i64 1,int i64 1] 300);simpa [cg,nD,aU,bJ] using this
theorem aD.beyond(a:aD T f S i L)(k:ae z4 i g)(d:∀x,x∈z4->f.heap.size<=x):aD T f S g L :=
 ⟨⟨k.os.trans a.1.os,k.tape.trans a.1.tape,k.output.trans a.1.output,TF a.1.size k.size,fun b c j=>by
  rw[<-a.1.block b c j];exact k.block b (Tw c a.1.size) (fun e=>by have:=d b e;omega)⟩,a.2⟩
theorem aD.word(a:aD T f S i L)(M:gD T d i L g yr)(l:f.heap.size<=d):aD T f S g yr:=by
 refine⟨⟨M.1.os.trans a.1.os,M.1.tape.trans a.1.tape,M.1.output.trans a.1.output,TF a.1.size M.1.size,?_⟩,?_⟩
 ·intro k b c;rw[<-a.1.block k b c];refine M.1.block k (Tw b a.1.size) ?_;rintro (e | e | j)
  ·exact c (TH e)
  ·omega
  ·rcases a.2 k j with h | h
   ·exact c (TE h)
   ·omega
 ·intro k b;rcases M.2 k b with h | h
  ·exact a.2 k h
  ·exact TE (TF a.1.size h)
theorem Kx:(eK l y).set (1+s) (bool true)=eK l (y.set s true):=by
 unfold eK;rw[Nat.add_comm 1 s,Vi,VI]
theorem DP(h:y.length=4)(a:s<4):(eK l y)[1+s]?=some (bool (y.getD s true)):=by
 unfold eK;rw[Nat.add_comm 1 s,Vj,Ua,To];rw[Tn (by omega)];rfl
set_option maxRecDepth 100000
theorem yp(a:y.length=4)(d:Db)(c:Nat->Hd)(w:World)(i:l<4)(h:aW w o 200 (eK H y) [] d c)(e:y.getD l true=true):j9 o H b x l y d c w:=by
 unfold j9 cW;rw[Tr e];have g:=h.lt;have f:=h.preCell (1+l) (by rw[jT H y a];omega);rw[DP H y l a i,e]at f;go_enter func112,ntmps112;go_wp2;exact Tz (v:=agg #[int i64 0,string ⟨#[]⟩,int i64 0,int i64 0]) (by simp[results,results112,go_sem]) rfl
  ⟨rfl,c,h.XE (bR.alloc _),(aD.refl _ _ _).XE (bR.alloc _)⟩
theorem zr(co:∀j,j<b.length->(ak b j).size<=1024)(bv:H≠o)(IH:∀g,g<l->∀(j:Nat) (J:List Bool) (d:Db) (K:Nat->Hd) (w:World) (m:Nat),j<b.length->J.length=4->oI d m->m+eS b J<=9000000->eS b J<=g->aW w o 200 (eK H J) [] d K->bO w H x b c->¬ik K H->j9 o H b g j J d K w)(j:Nat)(J:List Bool)(d:Db)(K:Nat->Hd)(w:World)(m:Nat)(hj:j<b.length)(af:J.length=4)(hB:oI d m)(hm:m+eS b J<=9000000)(hf:eS b J<=l)(h:aW w o 200 (eK H J) [] d K)(ht:bO w H x b c)(bw:¬ik K H)(hb:J.getD j true=false):j9 o H b l j J d K w:=by
 unfold j9 cW;rw[Tp (by rw[hb];simp)];have cs:=ht.2;have hs:=co j hj;have bk:=xW b J j af hb;obtain⟨n,hn⟩:∃n,aG b j=n:=⟨_,rfl⟩
 obtain⟨s,ac⟩:∃s,ak b j=s:=⟨_,rfl⟩
 rw[ac]at hs bk;have cz:=h.lt;have b6:=h.free;have cL:=ht.lt;have c1:=h.preCell (1+j) (by rw[jT H J af];omega);rw[DP H J j af (by omega),hb]at c1;have c0:=h.preCell 0 (by simp[eK]);have b1:w.cell? ⟨o,0,none⟩=some (pointer (some ⟨H,0,none⟩)):=c0;clear c0;have P1:=h.pre (1+j) (by rw[jT H J af];omega) (bool true);rw[Kx]at P1;obtain⟨i,ag⟩:∃i,J.set j true=i:=⟨_,rfl⟩
 have cb:i.length=4:=by rw[<-ag];simpa using af
 rw[ag]at P1 bk ⊢;clear ag;obtain⟨W,hW⟩:∃W,W=(w.setCell ⟨o,1+j,none⟩ (bool true)).alloc (.cells #[int i64 0,string ⟨#[]⟩,int i64 0,int i64 0] 87):=⟨_,rfl⟩
 have D1:aW W o 200 (eK H i) [] d K:=by rw[hW];exact P1.1.XE (bR.alloc _)
 have T1:aD o w K W K:=by rw[hW];exact P1.2.XE (bR.alloc _)
 have F1:W.heap[w.heap.size]?=some (.cells bK 87):=by
  rw[hW];have:=Tu (w.setCell ⟨o,1+j,none⟩ (bool true)) (.cells bK 87);simpa [World.setCell,bK] using this
 have ba:bO W H x b c:=⟨T1.1.get ht.1 (by rintro (e | e);exact bv e;exact bw e),ht.2⟩;have ar:Xr (∀k,w.heap.size<=k->¬ik K k):=fun k hk hm=>by have:=h.inlt hm;omega
 have HW:Xr _:=hW.symm;have bz:Xr _:=IH;clear P1 hW IH;go_enter func112,ntmps112;go_wp2_with fail;rw[HW.o];clear HW c1 b1 b6 ht h;refine(MO H x j b c _ ba hj).mono ?_;rintro e w2 ⟨rfl,Z⟩;rw[hn,ac];go_wp2_with fail;refine(DD n s _).mono ?_;rintro e w3 ⟨sp,rfl,cF,h3,ai⟩;go_wp2_with fail;refine(ug sp 0 n s _ hs (by omega) h3).mono ?_;rintro e w4 ⟨rfl,h4,al⟩;have cy:=aj F1;have cP:=Z.size;have cu:w.heap.size<sp:=by omega
 have bs:sp≠o:=by omega
 have bx:H≠sp:=by omega
 have T4:aD o w K w4 K:=(((T1.XE Z).XE ai).beyond al (by simp;omega));have F4:w4.heap[w.heap.size]?=some (.cells bK 87):=al.get (ai.get (Z.get F1 (by simp)) (by simp)) (by simp;omega);have D4:aW w4 o 200 (eK H i) [] d K:=((D1.XE Z).XE ai).XR al (by simp;omega) (by intro k hk;simp;rintro rfl;exact ar.o _ (by omega) hk);have bd:bO w4 H x b c:=((ba.XR Z (by simp)).XR ai (by simp)).XR al (by simp;omega);have ct:=aj h4;clear D1 T1 F1 ba Z ai al h3;simp only[fN];go_wp2
 go_loopg [7] s.size (fun gk _ wr=>∃(k g m1:Nat) (f:List Bool) (B:Db) (L:Nat->Hd),k<=s.size/\gk=s.size-k/\f.length=4/\oI B m1/\m1+(s.size-k)+eS b f<=9000000/\(s.size-k)+eS b f+1<=g/\g<=l /\
  Xr (bH b l j 0 i d=bH b g j k f B)/\cg wr sp n s (aC s k).2/\jY wr w4.heap.size n s (aC s k).1 /\
  wr.heap[w.heap.size]?=some (.cells bK 87)/\aW wr o 200 (eK H f) [] B L/\bO wr H x b c/\aD o w K wr L/\(¬ik L sp/\¬ik L w4.heap.size/\¬ik L w.heap.size/\¬ik L H))
 ·exact⟨0,l,m,i,d,K,by omega,by omega,cb,hB,by omega,by omega,Tq _,rfl,h4.XR (bR.alloc _) (by simp),Tu _ _,(bR.alloc _).get F4 (by simp),D4.XE (bR.alloc _),bd.XR (bR.alloc _) (by simp),T4.XE (bR.alloc _),ar.o _ (by omega),ar.o _ (by omega),ar.o _ (by omega),bw⟩
 obtain⟨k,g,m1,f,B,L,hk,hg,ao,ax,cE,cA,cB,hR,h5,hI,hF,D,TB,T,bl,bo,P,a7⟩:=hrel;obtain⟨O,rfl⟩:∃O,g=O+1:=⟨g-1,by omega⟩
 clear D4 T4 F4 bd h4;have bp:=gq s k hk;have cr:=sV s k hs;have SK:=El b O (MW b O).2 j k f B m1 (by rw[ac];exact hk) ao ax;have L1:=zU b O j k f B;have L2:=pD b O j k f B;have L3:=Bm b O j k f B;have L4:=xJ b O j k f B;have ST:ia b O j k f B=kt (cW b O) b j (aC s k).2 (aC s k).1.text (lq n s (aC s k).1.pos) f B:=by unfold ia;rw[hn,ac]
 rw[ac]at SK L1 L2 L3 L4;rw[hn]at L4;rw[ST]at SK L1 L2;have L6:aM (aC s k).1=false->(aC s k).1.XY=false->((aC s k).1.X6==0)=false:=kU;have X:Xr _:=SK;have S:Xr _:=L1;have U:Xr _:=L2;have V:Xr _:=L3;have M:Xr _:=L4;have ad:Xr _:=L6;clear SK L1 L2 L3 L4 L6 ST;generalize hrr:aC s k=r at *;obtain⟨⟨t,u,fi,p⟩,z⟩:=r;clear hrr;simp only at h5 hI bp cr X S U V M ad;obtain⟨q0,q1,q2,q3,q4,q5⟩:=hI.cells;have cH:=aj h5;cases hw:(u==0 && !fi)
 ·cases fi
  ·have R:Xr (bH b l j 0 i d=(jx n s ⟨t,u,false,p⟩,f,B)):=hR.o.trans (M.o hw (by simp));have hu:(u==0)=false:=(by simpa using hw);clear S U V M ad X;go_wp2_with fail;refine(dm t n _ (aU s p) (bJ s p) _ _).mono ?_;rintro e w5 ⟨rfl,a⟩;have A:=hI.XR a (by simp);have q:=a.get hF (by simp);have D5:=D.XE a;have T5:=T.XE a;clear q0 q1 q2 q3 q4 q5 hI h5 hF D T a TB;obtain⟨q0,q1,q2,q3,q4,q5⟩:=A.cells;go_wp2_with fail;refine(og t n u (aU s p) (bJ s p) _ _).mono ?_;rintro e w6 ⟨rfl,a5⟩;simp only[Bool.false_eq_true,if_false];have C:=a5.get q (by simp);have D6:=D5.XE a5;have T6:=T5.XE a5;have v:Xr _:=(fun a0 a1 a2 a3=>oU D6 T6 (F:=w.heap.size) (Tq _) (by omega) P a0 a1 a2 a3);obtain⟨z0,z1,z2,z3⟩:=cQ C;have y:=am C;go_wp2;exact Tz (v:=agg #[int i64 u,string n,int i64 (aU s p),int i64 (bJ s p)]) (by simp[results,results112,go_sem,z0,z1,z2,z3]) rfl
    ⟨by rw[R.o];rfl,L,by rw[R.o];exact(v.o _ _ _ _).1,(v.o _ _ _ _).2⟩
  ·cases ho:lM B
   ·have R:Xr (bH b l j 0 i d=(cZ,f,B)):=hR.o.trans (V.o hw rfl ho);clear S U V M ad X;go_wp2_with fail;refine(dm t n _ (aU s p) (bJ s p) _ _).mono ?_;rintro e w5 ⟨rfl,a⟩;have A:=hI.XR a (by simp);have q:=a.get hF (by simp);have D5:=D.XE a;have T5:=T.XE a;clear q0 q1 q2 q3 q4 q5 hI h5 hF D T a TB;obtain⟨q0,q1,q2,q3,q4,q5⟩:=A.cells;go_wp2_with fail;refine(uh o 200 5 (eK H f) [] B L _ D5 (jT H f ao)).mono ?_;rintro e w6 ⟨rfl,bc⟩;subst bc;rw[ho];have v:Xr _:=(fun a0 a1 a2 a3=>oU D5 T5 (F:=w.heap.size) (Tq _) (by omega) P a0 a1 a2 a3);obtain⟨z0,z1,z2,z3⟩:=cQ q;have y:=am q;go_wp2;exact Tz (v:=agg #[int i64 0,string ⟨#[]⟩,int i64 0,int i64 0]) (by simp[results,results112,go_sem,z0,z1,z2,z3]) rfl
     ⟨by rw[R.o];rfl,L,by rw[R.o];exact(v.o _ _ _ _).1,(v.o _ _ _ _).2⟩
   ·have R:Xr (bH b l j 0 i d=(jx n s ⟨t,u,true,p⟩,f,B)):=hR.o.trans (M.o hw (by simp[ho]));clear S U V M ad X;go_wp2_with fail;refine(dm t n _ (aU s p) (bJ s p) _ _).mono ?_;rintro e w5 ⟨rfl,a⟩;have A:=hI.XR a (by simp);have q:=a.get hF (by simp);have D5:=D.XE a;have T5:=T.XE a;clear q0 q1 q2 q3 q4 q5 hI h5 hF D T a TB;obtain⟨q0,q1,q2,q3,q4,q5⟩:=A.cells;go_wp2_with fail;refine(uh o 200 5 (eK H f) [] B L _ D5 (jT H f ao)).mono ?_;rintro e w6 ⟨rfl,bc⟩;subst bc;rw[ho];go_wp2_with fail;refine(og t n u (aU s p) (bJ s p) _ _).mono ?_;rintro e w7 ⟨rfl,a6⟩;simp only[if_true];have bf:=a6.get q (by simp);have D7:=D5.XE a6;have T7:=T5.XE a6;have v:Xr _:=(fun a0 a1 a2 a3=>oU D7 T7 (F:=w.heap.size) (Tq _) (by omega) P a0 a1 a2 a3);obtain⟨z0,z1,z2,z3⟩:=cQ bf;have y:=am bf;go_wp2;exact Tz (v:=agg #[int i64 7,string n,int i64 (aU s p),int i64 (bJ s p)]) (by simp[results,results112,go_sem,z0,z1,z2,z3]) rfl
     ⟨by rw[R.o];rfl,L,by rw[R.o];exact(v.o _ _ _ _).1,(v.o _ _ _ _).2⟩
 ·have hu:u=0:=by simp at hw;exact hw.1
  have b5:fi=false:=by simp at hw;exact hw.2
  subst hu b5;have cl:=ax.small (N:=10000000) (by omega);have br:=(ax.small (N:=100000000) (by omega)).2;have RW:=fun(w':World) (h':aW w' o 200 (eK H f) [] B L) (ck:cg w' sp n s z) (cp:bO w' H x b c)=>BO o H x sp O j z b c f ao B L n s t (aU s p) (bJ s p) w' h' hn ac hs bp.2.1 ck cp bs bx bl cl.1 (by omega) br
   (fun jj ww ca b4 cq=>bz.o O (by omega) jj f B L ww m1 ca ao ax (by omega) (by omega) b4 cq a7)
  have aS:Xr _:=RW;have I:Xr _:=X.o hw;have E:Xr _:=S.o hw;have G:Xr _:=U.o hw;clear RW S U V M ad X;simp only[lq]at I E G;generalize kt (cW b O) b j z t ⟨n,aU s p,bJ s p⟩ f B=Q at *;obtain⟨⟨⟨r,pf,pl,pc⟩,aT,d2⟩,z2⟩:=Q;simp only[iw]at I E G aS;have ap:=I.o.2;obtain⟨bj,cf,m2,be,cc⟩:=I.o.1;simp only at bj cf be cc ap;clear I;cases hr:(r==0)
  ·have ch:(r != 0)=true:=(by simp[bne,hr]);have R:Xr (bH b l j 0 i d=((r,⟨pf,pl,pc⟩),aT,d2)):=hR.o.trans (G.o hr);clear E G;go_wp2_with fail;refine(dm t n _ (aU s p) (bJ s p) _ _).mono ?_;rintro e w5 ⟨rfl,a⟩;have A:=hI.XR a (by simp);have av:=h5.XR a (by simp);have q:=a.get hF (by simp);have D5:=D.XE a;have T5:=T.XE a;have Y:=TB.XR a (by simp);clear q0 q1 q2 q3 q4 q5 hI h5 hF D T TB a;obtain⟨q0,q1,q2,q3,q4,q5⟩:=A.cells;go_wp2_with fail;refine(aS.o _ D5 av Y).mono ?_;rintro e w6 ⟨rfl,H2,D6,M6,-⟩;have C:=M6.1.get q (by rintro (e | e | e);omega;omega;exact P e);have m3:=M6.fresh w.heap.size (aj q) P;have T7:=T5.word M6 (by omega);have az:=aj C;have y6:=am C;obtain⟨z0,z1,z2,z3⟩:=cQ C;have v:Xr _:=(fun a0 a1 a2 a3=>oU D6 T7 (F:=w.heap.size) (Tq _) (by omega) m3 a0 a1 a2 a3);clear q0 q1 q2 q3 q4 q5;go_wp2;exact Tz (v:=agg #[int i64 r,string pf,int i64 pl,int i64 pc]) (by simp[results,results112,go_sem,az,z0,z1,z2,z3]) rfl
    ⟨by rw[R.o];rfl,H2,by rw[R.o];exact(v.o _ _ _ _).1.XE (bR.alloc _),((v.o _ _ _ _).2.XE (bR.alloc _))⟩
  ·have ch:(r != 0)=false:=(by simp[bne,hr]);have R:Xr (bH b l j 0 i d=bH b O j z2 aT d2):=hR.o.trans (E.o hr);clear E G;go_wp2_with fail;refine(dm t n _ (aU s p) (bJ s p) _ _).mono ?_;rintro e w5 ⟨rfl,a⟩;have A:=hI.XR a (by simp);have av:=h5.XR a (by simp);have q:=a.get hF (by simp);have D5:=D.XE a;have T5:=T.XE a;have Y:=TB.XR a (by simp);clear q0 q1 q2 q3 q4 q5 hI h5 hF D T TB a;obtain⟨q0,q1,q2,q3,q4,q5⟩:=A.cells;go_wp2_with fail;refine(aS.o _ D5 av Y).mono ?_;rintro e w6 ⟨rfl,H2,D6,M6,cj⟩;have h6:=cj hr;have C:=M6.1.get q (by rintro (e | e | e);omega;omega;exact P e);have b3:jY w6 w4.heap.size n s ⟨t,0,false,p⟩:=M6.1.get A (by rintro (e | e | e);omega;omega;exact bo e);have bT:bO w6 H x b c:=⟨M6.1.get Y.1 (by rintro (e | e | e);exact bv e;exact bx e;exact a7 e),Y.2⟩;have e1:=M6.fresh sp (aj av) bl;have e2:=M6.fresh w4.heap.size (aj A) bo;have e3:=M6.fresh w.heap.size (aj q) P;have e4:=M6.fresh H Y.lt a7;have T7:=T5.word M6 (by omega);have az:=aj C;have cx:=aj h6;go_wp2_with fail;refine(ug sp z2 n s _ hs ap.2 (by exact h6.XR (bR.alloc _) (by simp))).mono ?_;rintro e w8 ⟨rfl,h8,an⟩;have a4:=(b3.XR (bR.alloc _) (by simp)).XR an (by simp;omega);have b2:=an.get ((bR.alloc _).get C (by simp)) (by simp;omega);have D8:=(D6.XE (bR.alloc _)).XR an (by simp;omega) (by intro k hk;simp;rintro rfl;exact e1 hk);have b0:=(bT.XR (bR.alloc _) (by simp)).XR an (by simp;omega);have T8:=(T7.XE (bR.alloc _)).beyond an (by simp;omega);have yy:=am a4;clear q0 q1 q2 q3 q4 q5;obtain⟨q0,q1,q2,q3,q4,q5⟩:=a4.cells;simp only[fN];go_wp2;go_roundg (s.size-z2)
   ·exact⟨z2,O,m2,aT,d2,H2,ap.2,rfl,bj,be,by omega,by omega,by omega,R.o,iE h8 (by omega) _ _ _ _ _ _,qG a4 _,vy b2 (by omega) _ _ _ _ _ _,
     D8.XR (Gn _ _ _ _ _ _) (by simp;omega) (by intro k hk;simp;rintro rfl;exact e2 hk),b0.XR (Gn _ _ _ _ _ _) (by simp;omega),T8.beyond (Gn _ _ _ _ _ _) (by simp;omega),e1,e2,e3,e4⟩
   omega
theorem BN(i:∀j,j<b.length->(ak b j).size<=1024)(k:x≠H)(f:Nat):∀(j:Nat) (a:List Bool) (d:Db) (e:Nat->Hd) (w:World) (m:Nat),j<b.length->a.length=4->oI d m->m+eS b a<=9000000->eS b a<=f->aW w H 200 (eK x a) [] d e->bO w x l b c->¬ik e x->j9 H x b f j a d e w:=by
 induction f using Nat.strongRecOn with
 | _ f IH =>
  intro j a d e w m s g q t r h p n;cases o:a.getD j true with
  | true=>exact yp H x f j b a g d e w (by have:=p.2;omega) h o
  | false=>exact zr H x l f b c i k IH j a d e w m s g q t r h p n o
structure iu(w:World)(l:List St)(H:Nat->Hd):Prop where
  X9:aB w (H 6) (jm l H)
  syms:∀i s,l[i]?=some s->aB w (H (10+2*i)) (aE s.Xz)
  prfs:∀i s,l[i]?=some s->aB w (H (11+2*i)) (iB s.XK)
theorem aW.record(h:aW f T d m y1 t S):iu f t.XQ S:=by
  refine⟨h.X9 6,fun i s a=>?_,fun i s a=>?_⟩
  · have:=h.X9 (10+2*i)
    rw[show 10+2*i=2*i+10 by omega]at this ⊢;have e:a8 t S (2*i+10)=aE s.Xz:=by simp[a8,inner,symsAt,a]
    rw[e]at this;exact this
  · have:=h.X9 (11+2*i)
    rw[show 11+2*i=(2*i+1)+10 by omega]at this ⊢;have q:(2*i+1) % 2=1:=by omega
    have b:(2*i+1) / 2=i:=(by omega);have e:a8 t S ((2*i+1)+10)=iB s.XK:=(by simp[a8,inner,um,q,b,a]);rw[e]at this;exact this
theorem iu.keptP{P:Nat->Prop}(h:iu f M S)(k:fL P f i)(d:∀x,ik S x->¬P x):iu i M S :=
  ⟨h.X9.XJ (fun x a=>k.block x (h.X9.lt a) (d x ⟨6,a⟩)),fun c s b=>(h.syms c s b).XJ (fun x a=>k.block x ((h.syms c s b).lt a) (d x ⟨_,a⟩)),fun c s b=>(h.prfs c s b).XJ (fun x a=>k.block x ((h.prfs c s b).lt a) (d x ⟨_,a⟩))⟩
theorem iu.XR(h:iu f M S)(k:ae z4 f i)(a:∀x,ik S x->x∉z4):iu i M S :=
  h.keptP (k.toP (P:=(·∈z4)) (fun _ b _=>b)) a
theorem iu.XE(h:iu f M S)(k:ae [] f i):iu i M S:=h.XR k (by simp)
def nN:Nat->Hd:=fun _=>⟨none,0⟩
theorem vo:¬ik nN s:=by rintro ⟨i,h⟩;simp[nN,Hd.XS]at h
def Ia:List Bool:=[false,false,false,false]
theorem aW.begin(h:f.heap[T]?=some (.cells (m++(cK fT nN++[])).toArray d)):aW f T d m [] fT nN:=by
  refine⟨h,?_,fun i j _=>TH rfl,fun i e=>by simp[nN,Hd.XS]at e⟩;intro i
  match i with
  | 0=>exact Ty _ _ _ _
  | 1=>exact Ty _ _ _ _
  | 2=>exact Ty _ _ _ _
  | 3=>exact Ty _ _ _ _
  | 4=>exact Ty _ _ _ _
  | 5=>exact Ty _ _ _ _
  | 6=>exact Ty _ _ _ _
  | 7=>exact Ty _ _ _ _
  | 8=>exact Ty _ _ _ _
  | 9=>exact Ty _ _ _ _
  | n+10 =>
    have e:a8 fT nN (n+10)=if n % 2=0 then aE [] else iB []:=(by simp[a8,inner,fT,symsAt,um]);rw[e];split
    · exact Ty _ _ _ _
    · exact Ty _ _ _ _
set_option maxRecDepth 512
theorem Gg(d:Db)(a:Nat->Hd)(w:World)(h:aW w H x z6 c d a)(j:z6.length=l) :
    Calls prog 113 #[pointer (some ⟨H,l,none⟩)] w fun e t=>e=returned (agg #[slice (a 6).ao d.XQ.length (a 6).cap,slice (a 7).ao d.rbl.length (a 7).cap])/\ae [] w t:=by
  obtain⟨k,m,n,o,p,q,u,y,r,s,b,f,g⟩:=h.cells l j;clear k m n o p q r s b f g;have i:=h.lt;go_enter func113,ntmps113;go_wp2;exact Tz (v:=agg #[slice (a 6).ao d.XQ.length (a 6).cap,slice (a 7).ao d.rbl.length (a 7).cap]) (by simp[results,results113,go_sem]) rfl ⟨rfl,(ae.refl _ _).alloc _⟩
theorem BB(a:∀j,j<b.length->(ak b j).size<=1024)(c:List Bool):eS b c<=4104:=by
  have h:∀j,OJ b c j<=1026:=by
    intro j;unfold OJ;split
    · omega
    · rcases Xm j b.length with h | h
      · have:=a j h;omega
      · have:(ak b j).size=0:=by unfold ak;rw[To,Un h];rfl
        omega
  have d:=h 0;have e:=h 1;have f:=h 2;have g:=h 3;unfold eS;omega
theorem Bu(h:ae z4 f i)(b:T∈z4∨f.heap.size<=T)(a:d∈z4∨f.heap.size<=d)(c e g j k l:Value) :
    ae z4 f ((((((i.setCell ⟨T,0,none⟩ c).setCell ⟨T,1,none⟩ e).setCell ⟨d,0,none⟩ g).setCell ⟨d,1,none⟩ j).setCell ⟨d,2,none⟩ k).setCell ⟨d,3,none⟩ l) :=
  (((((h.setCell b _).setCell b _).setCell a _).setCell a _).setCell a _).setCell a _
def bE(fs:Fs)(root:Nat):G7:=cW fs 5000 root Ia fT
set_option maxRecDepth 100000
theorem NR(Y:bO D H x b c)(P:l<b.length)(p:∀j,j<b.length->(ak b j).size<=1024) :
    Calls prog 80 #[pointer (some ⟨H,0,none⟩),int i64 l] D fun e Z =>
      (if((bE b l).1.1==0)=true then ∃q,e=returned (tuple #[agg #[slice (q 6).ao (bE b l).2.2.XQ.length (q 6).cap,slice (q 7).ao (bE b l).2.2.rbl.length (q 7).cap],iw cZ])/\iu Z (bE b l).2.2.XQ q/\(∀k,ik q k->D.heap.size<=k)
       else e=returned (tuple #[agg #[slice none 0 0,slice none 0 0],iw (bE b l).1]))/\ae [] D Z:=by
  have ac:=Y.lt
  obtain⟨W,s⟩:∃W,W=((D.alloc (.cells #[slice none 0 0,slice none 0 0] 76)).alloc (.cells #[int i64 0,string ⟨#[]⟩,int i64 0,int i64 0] 87)).alloc (.cells #[pointer (some ⟨H,0,none⟩),bool false,bool false,bool false,bool false,
    slice none 0 0,slice none 0 0,slice none 0 0,slice none 0 0,slice none 0 0,slice none 0 0,slice none 0 0,slice none 0 0,int i64 0,string ⟨#[]⟩,slice none 0 0,bool false,slice none 0 0] 200):=⟨_,rfl⟩
  have m:ae [] D W:=by rw[s];exact((bR.alloc _).alloc _).alloc _
  have hA:W.heap[D.heap.size]?=some (.cells #[slice none 0 0,slice none 0 0] 76):=by
    rw[s];exact((bR.alloc _).alloc _).get (Tu _ _) (by simp)
  have hF:W.heap[D.heap.size+1]?=some (.cells bK 87):=by
    rw[s];have e:(D.alloc (.cells #[slice none 0 0,slice none 0 0] 76)).heap.size=D.heap.size+1:=by simp
    rw[<-e];exact(bR.alloc _).get (Tu _ _) (by simp)
  have V:aW W (D.heap.size+2) 200 (eK H Ia) [] fT nN:=by
    refine aW.begin ?_;rw[s];have e:((D.alloc (.cells #[slice none 0 0,slice none 0 0] 76)).alloc (.cells #[int i64 0,string ⟨#[]⟩,int i64 0,int i64 0] 87)).heap.size=D.heap.size+2:=by simp
    rw[<-e];exact Tu _ _
  have hT:bO W H x b c:=Y.XR m (by simp);have HW:Xr _:=s.symm;have O:=BN (D.heap.size+2) H x b c p (by omega) 5000 l Ia fT nN W 0 P rfl oI.empty (by have:=BB b p Ia;omega) (by have:=BB b p Ia;omega) V hT (vo _);unfold j9 at O;have u:Xr _:=O;clear s O;have t:Xr ((cW b 5000 l Ia fT).2.1.length=4):=((MW b 5000).2 l Ia fT 0 rfl oI.empty).1;have T:Xr (bE b l=cW b 5000 l Ia fT):=rfl;rw[T.o];clear T;generalize cW b 5000 l Ia fT=R at *;obtain⟨⟨r,pf,pl,pc⟩,v,F⟩:=R;simp only[iw]at u t ⊢;go_enter func80,ntmps80;go_upto_region 2 with fail
  rw[HW.o];go_wp2_with fail;refine Ts u.o ?_;rintro e w2 ⟨rfl,a,S,d⟩;have f:=d.1.get hA (by rintro (e | e);omega;exact vo _ e);have g:=d.1.get hF (by rintro (e | e);omega;exact vo _ e);have N:Xr (∀k,ik a k->D.heap.size<=k):=fun k n=>by
    rcases d.2 k n with h | h
    · exact absurd h (vo _)
    · have:=m.size;omega
  have M:Xr (∀k,ik a k->k≠D.heap.size/\k≠D.heap.size+1/\k≠D.heap.size+2):=fun k n=>by
    have ad:=V.lt;rcases d.2 k n with h | h
    · exact absurd h (vo _)
    · omega
  have U:Xr (ae [] D w2):=⟨d.1.os.trans m.os,d.1.tape.trans m.tape,d.1.output.trans m.output,TF m.size d.1.size,fun k n _=>(d.1.block k (Tw n m.size) (by rintro (e | e);omega;exact vo _ e)).trans (m.block k n (by simp))⟩;obtain⟨C,E⟩:=Ba f;obtain⟨I,J,K,L⟩:=cQ g;have ya:=am f;have yf:=am g;have w:=aj f;have z:=aj g;cases X:(r==0)
  · have Q:(r != 0)=true:=by simp[bne,X]
    go_wp2_with fail;go_region
    all_goals go_wp2
    all_goals exact Tz (v:=tuple #[agg #[slice none 0 0,slice none 0 0],agg #[int i64 r,string pf,int i64 pl,int i64 pc]]) (by simp[results,results80,go_sem,C,E,I,J,K,L,w,z]) rfl ⟨rfl,((Bu U.o (TE (Tq _)) (TE (Wq _)) _ _ _ _ _ _).alloc _).drew⟩
  · have Q:(r != 0)=false:=by simp[bne,X]
    go_wp2_with fail;refine(Gg (D.heap.size+2) 200 5 (eK H v) [] F a _ (by exact S.XE (bR.alloc _)) (jT H v t.o)).mono ?_;rintro e G ⟨rfl,B⟩;have i:ae [] w2 G:=(bR.alloc _).trans B;have y:=i.get f (by simp);have A:=i.get g (by simp);have K4:Xr (ae [] D G):=U.o.trans i;have S4:Xr (iu G F.XQ a):=S.record.XE i;clear C E I J K L ya yf B;obtain⟨C,E⟩:=Ba y;obtain⟨I,J,K,L⟩:=cQ A;have ya:=am y;have yf:=am A;go_wp2;exact Tz (v:=tuple #[agg #[slice (a 6).ao F.XQ.length (a 6).cap,slice (a 7).ao F.rbl.length (a 7).cap],agg #[int i64 0,string ⟨#[]⟩,int i64 0,int i64 0]]) (by simp[results,results80,go_sem,C,E,I,J,K,L]) rfl
      ⟨⟨a,rfl,S4.o.XR (Bu (ae.refl [D.heap.size,D.heap.size+1] G) (TH (by simp)) (TH (by simp)) _ _ _ _ _ _) (fun k n=>by have:=M.o k n;simp;omega),N.o⟩,
        Bu K4.o (TE (Tq _)) (TE (Wq _)) _ _ _ _ _ _⟩
structure fM(w:World)(b o:Nat)(l:List St)(H:Nat->Hd):Prop where
 cell:∃arr t,w.heap[b]?=some (.cells arr t)/\arr[o]?=some (slice (H 6).ao l.length (H 6).cap)
 XQ:iu w l H
theorem fM.at(h:fM f T d M S):f.cell? ⟨T,d,none⟩=some (slice (S 6).ao M.length (S 6).cap):=by
 obtain⟨a,t,b,c⟩:=h.cell;rw[ah b];exact c
theorem fM.lt(h:fM f T d M S):T<f.heap.size:=by
 obtain⟨a,t,b,c⟩:=h.cell;exact aj b
theorem fM.XR(h:fM f T d M S)(k:ae z4 f i)(g:T∉z4)(e:∀x,ik S x->x∉z4):fM i T d M S:=by
 obtain⟨a,t,b,c⟩:=h.cell;exact⟨⟨a,t,k.get b g,c⟩,h.XQ.XR k e⟩
theorem fM.XE(h:fM f T d M S)(k:ae [] f i):fM i T d M S:=h.XR k (by simp) (by simp)
theorem iu.stmt(h:iu f M S)(n:Nat)(l:n<M.length) :
  ∃g,(S 6).ao=some ⟨g,0,none⟩/\M.length<=(S 6).cap/\(S 6).cap<=9223372036854775807/\f.cell? ⟨g,n*8,none⟩=some (int i64 M[n].XU)/\f.cell? ⟨g,n*8+1,none⟩=some (string M[n].XV)/\f.cell? ⟨g,n*8+2,none⟩=some (slice (S (10+2*n)).ao M[n].Xz.length (S (10+2*n)).cap) /\
  f.cell? ⟨g,n*8+3,none⟩=some (slice (S (11+2*n)).ao M[n].XK.length (S (11+2*n)).cap)/\f.cell? ⟨g,n*8+4,none⟩=some (string M[n].XY.XZ)/\f.cell? ⟨g,n*8+5,none⟩=some (int i64 M[n].XY.X0) /\
  f.cell? ⟨g,n*8+6,none⟩=some (int i64 M[n].XY.X3)/\f.cell? ⟨g,n*8+7,none⟩=some (int i64 M[n].til):=by
 rcases h.X9.XP with ⟨_,i,_⟩ | ⟨g,d,a,o,e,b,-⟩
 ·have:M.length=0:=i;omega
 ·have c:=fun j (k:j<8) v (m:(Lj M[n] (S (10+2*n)) (S (11+2*n)))[j]?=some v)=>h.X9.cell a (n*8+j) v ((IX M S n l j k).trans m);exact⟨g,a,e,by unfold maxLen at b;exact b,c 0 (by omega) _ rfl,c 1 (by omega) _ rfl,c 2 (by omega) _ rfl,c 3 (by omega) _ rfl,c 4 (by omega) _ rfl,c 5 (by omega) _ rfl,c 6 (by omega) _ rfl,c 7 (by omega) _ rfl⟩
set_option maxRecDepth 512
theorem fa(h:fM D x l k z5) :
  Calls prog 81 #[pointer (some ⟨x,l,none⟩)] D fun e a=>e=returned (int i64 k.length)/\a=D:=by
 have c:=h.at;go_enter func81,ntmps81;go_wp2;go_ret;exact⟨rfl,rfl⟩
def fS(s:St)(a b:Hd):Value :=
 agg #[int i64 s.XU,string s.XV,slice a.ao s.Xz.length a.cap,slice b.ao s.XK.length b.cap,string s.XY.XZ,int i64 s.XY.X0,int i64 s.XY.X3,int i64 s.til]
theorem bF(h:fM D H x k z5)(f:l<k.length) :
  Calls prog 98 #[pointer (some ⟨H,x,none⟩),int i64 l] D fun e i=>e=returned (fS k[l] (z5 (10+2*l)) (z5 (11+2*l)))/\ae [] D i:=by
 have c:=h.at;have b:=h.lt;obtain⟨g,a,t,u,j,m,n,o,p,q,r,s⟩:=h.XQ.stmt l f;have d:=h.XQ.X9.lt (k:=g) (by unfold Hd.XS;rw[a];rfl);rw[a]at c;unfold fS;clear h;go_enter func98,ntmps98;go_wp2;exact Tz (v:=agg #[int i64 k[l].XU,string k[l].XV,slice (z5 (10+2*l)).ao k[l].Xz.length (z5 (10+2*l)).cap,slice (z5 (11+2*l)).ao k[l].XK.length (z5 (11+2*l)).cap,string k[l].XY.XZ,int i64 k[l].XY.X0,int i64 k[l].XY.X3,int i64 k[l].til])
  (by simp[results,results98,go_sem]) rfl ⟨rfl,(ae.refl _ _).alloc _⟩
def fE(l:List St)(n a:Nat):Bool:=match l[n]? with | some s=>decide (n<a)&&(s.til==0||decide (a<s.til)) | none=>false
theorem Pn(h:y4<k.length):fE k y4 s=(decide (y4<s)&&(k[y4].til==0||decide (s<k[y4].til))):=by
 unfold fE;rw[Tn h]
theorem iy(h:fM D o H k z5)(j:x<k.length) :
  Calls prog 188 #[pointer (some ⟨o,H,none⟩),int i64 x,int i64 l] D fun e w=>e=returned (bool (fE k x l))/\w=D:=by
 have c:=h.at;obtain⟨g,v,z,A,m,n,p,q,r,s,u,y⟩:=h.XQ.stmt x j;clear m n p q r s u;rw[v]at c;have b:Xr _:=Pn k x l j;generalize k[x].til=t at *;clear h;by_cases f:x<l
 ·cases i:((t:Int)==0)
  ·have a:(t==0)=false:=by cases t <;> simp at i ⊢
   have d:Xr (fE k x l=decide (l<t)):=ci (by rw[b.o,a];simp[f]);clear b;go_enter func188,ntmps188;go_wp2;go_ret;exact⟨aF (by rw[d.o]),rfl⟩
  ·have a:(t==0)=true:=by cases t <;> simp at i ⊢ <;> omega
   have d:Xr (fE k x l=true):=ci (by rw[b.o,a];simp[f]);clear b;go_enter func188,ntmps188;go_wp2;go_ret;exact⟨aF (by rw[d.o]),rfl⟩
 ·have d:Xr (fE k x l=false):=by show _=_;rw[b.o];simp[f]
  clear b;go_enter func188,ntmps188;go_wp2;go_ret;exact⟨aF (by rw[d.o]),rfl⟩
def mR(l:List St)(lab:Xs)(a n:Nat):Bool:=match l[n]? with | some s=>(s.XV.toList==lab.toList) && !(s.XU==1)&&fE l n a | none=>false
def jH(l:List St)(lab:Xs)(a:Nat):Option Nat:=(List.range l.length).find? (mR l lab a)
def oD:Option Nat->Int
 | some n=>n
 | none=>-1
theorem No(h:s<k.length):mR k zt y4 s=((k[s].XV.toList==zt.toList) && !(k[s].XU==1)&&fE k s y4):=by
 unfold mR;rw[Tn h]
theorem pb(c:d<T)(e:yg d=true)(a:∀i,i<d->yg i=false):(List.range T).find? yg=some d :=
 UT.2 ⟨e,by simpa using c,fun j b=>by simp[a j b]⟩
theorem nQ(a:∀i,i<T->yg i=false):(List.range T).find? yg=none :=
 UE.2 (fun i b=>by simp[a i (by simpa using b)])
theorem jb(h:fM D H x k z5)(N:k.length<=1073741824) :
  Calls prog 186 #[pointer (some ⟨H,x,none⟩),string z7,int i64 l] D fun e E=>e=returned (int i64 (oD (jH k z7 l)))/\E=D:=by
 have c:=h.at;go_enter func186,ntmps186;go_wp2
 go_loopg [7] k.length (fun g i wr=>∃a:Nat,a<=k.length/\g=k.length-a/\i=int i64 a/\Xr (∀i,i<a->mR k z7 l i=false)/\wr=D)
 ·exact⟨0,by omega,by omega,rfl,fun i s=>by omega,rfl⟩
 obtain⟨a,M,L,rfl,b,rfl⟩:=hrel;by_cases d:a<k.length
 ·obtain⟨g,A,J,K,G,I,t,u,v,w,y,z⟩:=h.XQ.stmt a d;clear t u v w y z;rw[A]at c;have j:Xr _:=No k z7 l a d;have p:Xr (fM wr H x k z5):=h;generalize k[a].XV=C at *;generalize k[a].XU=o at *;have next:Xr (mR k z7 l a=false->∀i,i<a+1->mR k z7 l i=false):=by
   intro B i s;by_cases e:i=a
   ·subst e;exact B
   ·exact b.o i (by omega)
  cases q:(C.toList==z7.toList)
  ·have f:Xr (mR k z7 l a=false):=(by show _=_;rw[j.o,q];simp);clear j h;go_wp2;go_roundg (k.length-(a+1))
   ·exact⟨a+1,by omega,rfl,by go_num,next.o f.o,rfl⟩
   omega
  ·cases m:(o==1)
   ·have n:(o != 1)=true:=(by simp[bne,m]);cases r:fE k a l
    ·have f:Xr (mR k z7 l a=false):=(by show _=_;rw[j.o,r];simp);clear j h;go_wp2_with (go_at_call 188;refine(iy H x a l k z5 _ p.o d).mono ?_;rintro e F ⟨rfl,rfl⟩);go_roundg (k.length-(a+1))
     ·exact⟨a+1,by omega,rfl,by go_num,next.o f.o,rfl⟩
     omega
    ·have f:Xr (jH k z7 l=some a):=pb d (by rw[j.o,q,m,r];rfl) b.o;clear j h;go_wp2_with (go_at_call 188;refine(iy H x a l k z5 _ p.o d).mono ?_;rintro e F ⟨rfl,rfl⟩);go_ret;exact⟨au (by rw[f.o];rfl),rfl⟩
   ·have n:(o != 1)=false:=(by simp[bne,m]);have f:Xr (mR k z7 l a=false):=ci (by rw[j.o,m];simp);clear j h;go_wp2;go_roundg (k.length-(a+1))
    ·exact⟨a+1,by omega,rfl,by go_num,next.o f.o,rfl⟩
    omega
 ·have f:Xr (jH k z7 l=none):=nQ (fun i s=>b.o i (by omega));clear h;go_wp2;go_ret;exact⟨au (by rw[f.o];rfl),rfl⟩
end Go.Proofs.YtnbhnocdhbcbcaaGreat
