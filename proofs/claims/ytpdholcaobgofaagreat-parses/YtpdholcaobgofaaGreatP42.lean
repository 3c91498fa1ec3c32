import Derived.Test.YtpdholcaobgofaaGreatP34
import Derived.Test.YtpdholcaobgofaaGreatP41
namespace Go.Proofs.YtpdholcaobgofaaGreat
open Go.RowKit Tryz
open Value IntKind Ending
set_option maxHeartbeats 0
variable{x:Fs}{y:Option Nat}{d a:Xr}{k:Int×Xs}(b l:Nat)(H:Nat×Nat->It)(w:Mc)(T:Hd)(f:List Tx)(n v S:Nat)
theorem Nx(i:∀e,y=some e->uD (cK x e).2.2){g:Int×Xs}(c:yQ x y d a k)(b:yQ x y d a g):k=g:=by
 unfold yQ at c b;cases y with
 | none=>exact c.trans b.symm
 | some e =>
  simp only at c b;unfold qr at c b;cases f:lH (cK x e).2.2.Zbv d with
  | none=>rw[f]at c b;exact c.trans b.symm
  | some n =>
   rw[f]at c b;simp only at c b;unfold BO at c b;split at c
   ·next h=>rw[XA h]at b;exact c.trans b.symm
   ·next h=>rw[Xz h]at b;exact SB (fun P j=>E1 (i e rfl) P j) c b
theorem QI(b:yQ x y d a k):k.2.length<=900000000:=by
 unfold yQ at b;cases y with
 | none=>simp only at b;rw[b];exact XX _
 | some e =>
  simp only at b;unfold qr at b;cases c:lH (cK x e).2.2.Zbv d with
  | none=>rw[c]at b;simp only at b;rw[b];exact XX _
  | some n =>
   rw[c]at b;simp only at b;unfold BO at b;split at b
   ·rw[b];exact XX _
   ·obtain⟨C,r,-,-,rfl⟩:=b;unfold wH;split
    ·exact XX _
    ·split
     ·split
      ·exact XX _
      ·next h=>exact XF (Nat.le_of_not_lt h) (by omega)
     ·exact XX _
set_option maxRecDepth 100000
theorem AL(s:Fs)(Y:Hd)(lo Z F E:Nat)(u:Option Nat)(m g:Xr)(y:World)(h:dj y b H w T f l)(hN:l<=1073741825)(hn:f.length+1<=3*l)(V:qx y H w n v S s Y lo Z F E u) :
  Calls prog 20 #[pointer (some ⟨b,0,none⟩),pointer (some ⟨v,0,none⟩),pointer (some ⟨S,0,none⟩),string m,string g] y fun e I=>FI b H w (f.length+1) l e I:=by
 have r:Xq (∀k,u=some k->uD (cK s k).2.2):=fun k e=>(Et V.le V.ok (V.st k e).1 (V.st k e).2).1.f;have N:Xq _:=OV v s lo Z u m g y V.p V.ok r.o
 have C:Xq (∀x i,aa [] y x->yQ s u m g i->Calls prog 46 #[pointer (some ⟨S,0,none⟩),string m,string g] x fun e I=>FrM i.2 i.1 x e I):=fun x i k t=>(NS S s Y F E u m g x (V.d.Zbj k) V.st V.le V.ok).mono (fun e I q=>by
  obtain⟨r2,R,U⟩:=q;rw[Nx r.o t R];exact U)
 have A:Xq (∀i,yQ s u m g i->i.2.length<=900000000):=fun i t=>QI t;have HM:Xq (dj y b H w T f l):=h;generalize yQ s u m g=AQ at *;clear h V r;go_enter func20,ntmps20;go_upto_region 2 with (go_at_call 45;refine Xx N.o ?_;rintro e w1 ⟨⟨c,L⟩,t,G,rfl,x1,n1,Q⟩)
 have D:Xq _:=C.o w1 (c,L) Q t;have B:Xq _:=A.o (c,L) t;simp only at D B;have K:Xq _:=(HM.o.lay (Oh G L) (a:=12) (XQ ⟨by decide,rfl⟩) Q x1 (fun q hq=>n1 q (Vy hq)));clear x1 n1 Q t C A;go_upto_region 3 with (go_at_call 46;refine Xx D.o ?_;rintro e x ⟨X,rfl,W⟩)
 have M:Xq _:=K.o.Zbj W.Zbw;have z:Xq (∀j n,(0<j/\j<=10)∨14<=j->gC H (12,f.length) (Oh G L) (j,n)=H (j,n)):=fun j n hj=>aA _ _ (bJ (by omega));have J:Xq _:=Oj b l _ w T f G X L x M.o hN hn (b9 _ _ _) W.ZbH B.o;clear W;generalize Az G=ra at *;obtain⟨ac,ad⟩:=X;go_wp2_with (go_at_call 40;refine Xx J.o ?_;rintro e w3 ⟨rfl,I',v',P,O,q1,R,U⟩);go_ret;exact⟨rfl,I',v',P,O,q1,R,fun j n hj=>(U j n (by omega)).trans (z.o j n (by omega))⟩
theorem UM(b a:Xr)(w:World)(Q:World->Prop)(d:Calls prog 20 #[pointer (some ⟨n,0,none⟩),pointer (some ⟨v,0,none⟩),pointer (some ⟨S,0,none⟩),string b,string a] w fun e c=>e=returned (bool true)/\Q c) :
  Calls prog 22 #[pointer (some ⟨n,0,none⟩),pointer (some ⟨v,0,none⟩),pointer (some ⟨S,0,none⟩),string b,string a,int i64 20] w fun e c=>e=returned (bool true)/\Q c:=by
 have f:Xq _:=d;clear d;go_enter func22,ntmps22;go_wp2_with (go_at_call 20;refine Xx f.o ?_;rintro e i ⟨rfl,g⟩);go_ret;exact⟨rfl,g⟩
theorem zbi(A C D:Int)(s t:Xr)(g:World)(h:dj g b H w T f l)(hV:w.V.length≠0)(hA:tP A)(hN:l<=1073741824) :
  Calls prog 8 #[pointer (some ⟨b,0,none⟩),agg #[int i64 20,int i64 A,int i64 C,int i64 D,string s,string t]] g fun e j=>rT b H l e j:=by
 obtain⟨W,Q⟩:=aP (g.alloc (.cells #[int i64 20,int i64 A,int i64 C,int i64 D,string s,string t] 28));obtain⟨M,L,af,y⟩:=h.m.boxed 20 A C D s t W Q.o;have HT:Xq (dj W b H w T f l):=h.Zbj y;obtain⟨z,B,X,Y,Z,o5,E⟩:=dG L;have HL:Xq _:=(mX b l H w 20 A C D s t W M (by omega));have HS:Xq (iW W b g.heap.size H w l 20 A C D s t):=⟨M,L⟩;have ad:=h.m.len.1;have p:Xq (∀G,Calls prog 11 #[int i64 A,int i64 w.V.length] G fun e j=>e=returned (int i64 (fH A w.V.length:Nat))/\j=G):=fun G=>fS A w.V.length G hA ⟨by omega,by omega⟩;have v:=iw A w.V.length (by omega);obtain⟨i,Hi⟩:=aP (fH A w.V.length);rw[Hi.o]at p v;have ac:((w.V.length:Int)==0)=false:=X6.2 (by omega);have ag:(i:Int)<(w.V.length:Int):=by omega
 clear h M L y;go_enter func8,ntmps8;go_upto_region 1 with fail
 rw[Q.o];go_upto_region 2 with (go_at_call 10;refine Xx HL.o ?_;rintro e F ⟨rfl,O⟩)
 have a:Xq (iW F b g.heap.size H w l 20 A C D s t):=HS.o.Zbj O;have J:Xq (dj F b H w T f l):=HT.o.Zbj O;clear z B X Y Z o5 E O;obtain⟨z,B,-⟩:=dG a.o.o;have E:=ah a.o.o;have K:F.cell? ⟨b,0,none⟩=some (slice w.hx.ao w.V.length w.hx.cap):=by rw[ab a.o.m.Zbx];rfl
 have R:=ah a.o.m.Zbx;go_upto_region 4 with fail
 go_quiet ((go_at_call 11;exact XW (p.o _)));go_upto_region 5 with fail
 obtain⟨k,d⟩:=aP (F.drewN nq);rw[d.o];have c:Xq (iW k b g.heap.size H w l 20 A C D s t):=a.o.Zbj (by rw[<-d.o];exact bH.drewN nq);have r:Xq (dj k b H w T f l):=J.o.Zbj (by rw[<-d.o];exact bH.drewN nq);clear z B E K R;obtain⟨z,B,X,Y,Z,o5,E⟩:=dG c.o.o;obtain⟨x,m,fs,hd,lo,hi,P,N,st,g1,g2,u,⟨S,z1,d1⟩,U,z2,d2⟩:=c.o.m.ver v;have K:k.cell? ⟨b,0,none⟩=some (slice w.hx.ao w.V.length w.hx.cap):=by rw[ab c.o.m.Zbx];rfl
 have c1:k.cell? ⟨b,1,none⟩=some (slice w.hm.ao w.V.length w.hm.cap):=by rw[ab c.o.m.Zbx];rfl
 rw[S]at K;rw[U]at c1;have R:=ah c.o.m.Zbx;have I:Xq (Calls prog 20 #[pointer (some ⟨b,0,none⟩),pointer (some ⟨x,0,none⟩),pointer (some ⟨m,0,none⟩),string s,string t] k fun e j=>rT b H l e j):=(AL b (l+1) H w T f i x m fs hd lo hi P N st s t k r.o.more (by omega) (by have:=r.o.t.n;omega) u).mono (fun e j q=>FI.ms q);clear u S U;go_wp2_with (go_at_call 20;refine Xx I.o ?_;rintro e w3 ⟨rfl,q1⟩);go_ret;exact⟨rfl,q1⟩
theorem Wv:zI (XT 20):=by
 rintro b N I M j c ⟨k,A,C,D,s,t⟩ w h p F H r;obtain⟨u,B,v,O,G,L⟩:=F;rcases H with e | ⟨e,d⟩
 ·replace e:k=20:=e;subst e;exact zbi b N I M j c A C D s t w h r u p
 ·replace e:k=19:=e;replace d:D=20:=d;subst e d;exact zbh b N I M j c A C 20 s t w h r u B p (fun i x m z v J E l g K a y o f=>UM b x m a s y _ ((AL b (N+1) I M j c i x m z v J E l g K a s y o.more (by omega) (by have:=o.t.n;omega) f).mono (fun e P q=>FI.ms q)))
theorem Kz(f:Xt)(a:Nat)(l:List oU)(w:World)(j:l.length*64<=140737488351232)(i:oj w f l)(k:∀o∈l,Cc o) :
  Calls prog 3 #[slice f l.length a] w fun e s=>e=returned (bool true)/\aa [] w s:=by
 have c:Xq _:=Sx f a 20 l w j i;have m:Xq _:=k;clear i k;go_enter func3,ntmps3;go_upto_region 2 with (go_at_call 4;refine Xx c.o ?_;rintro e t ⟨n,rfl,g⟩)
 have b:Xq _:=g.Zbw;have d:Xq _:=(za2 20 ⟨by decide,by decide⟩ Wv (by decide) j m.o g);clear g;obtain⟨p,q⟩:=n;go_wp2_with (go_at_call 5;refine Xx d.o ?_;rintro e u ⟨rfl,r⟩);go_ret;exact⟨rfl,(b.o.alloc _).trans r⟩
end Go.Proofs.YtpdholcaobgofaaGreat
