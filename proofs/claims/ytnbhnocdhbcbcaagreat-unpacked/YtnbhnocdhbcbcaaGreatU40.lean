import Derived.Test.YtnbhnocdhbcbcaaGreatU34
import Derived.Test.YtnbhnocdhbcbcaaGreatU39
namespace Go.Proofs.YtnbhnocdhbcbcaaGreat
open Go.RowKit Tryz
open Value IntKind Ending
set_option maxHeartbeats 0
variable(b l:Nat)(H:Nat×Nat->It)(w:Mc)(T:Hd)(f:List Tx)(n x S:Nat)
theorem Mv(b:Fs)(f:Option Nat)(a:Xs):(Bk b f a).1.length<=900000000:=by
 have d:∀(c:Nat->Nat) (e:Nat->Xs) (r:List jg) (q:uP),q.W.length<=64->(oq c e r q).1.length<=64:=by
  intro c e r
  induction r with
  | nil=>intro q h;rw[oq];exact h
  | cons s r g =>
   intro q h;rw[oq];split
   ·exact UF _
   ·exact g _ (by omega)
 unfold Bk;cases f with
 | none=>exact UF _
 | some k =>
  unfold vR;simp only;cases lx (bP b k).2.2.Yt a with
  | none=>exact UF _
  | some n =>
   simp only;split
   ·unfold rm;split
    ·have:=d (ij (bP b k).2.2.Yt) (fP (bP b k).2.2.Yt);exact Un (this _ _ (UF _)) (by omega)
    ·exact UF _
   ·exact UF _
set_option maxRecDepth 100000
theorem wk(i:Fs)(P:Hd)(R Q B z:Nat)(m:Option Nat)(g:Xs)(s:World)(h:da s b H w T f l)(Z:l<=1073741825)(hn:f.length+1<=3*l)(V:oV s H w n x S i P R Q B z m) :
  Calls prog 21 #[pointer (some ⟨b,0,none⟩),pointer (some ⟨x,0,none⟩),pointer (some ⟨S,0,none⟩),string g] s fun e M=>CX b H w (f.length+1) l e M:=by
 have y:Xr _:=Lb x i R Q m g s V.p V.ok;have v:Xr (∀r,ae [] s r->Calls prog 46 #[pointer (some ⟨S,0,none⟩),string g] r fun e M=>O8 (Bk i m g).1 (Bk i m g).2 r e M):=fun r k=>J0 S i P B z m g r (V.d.Yh k) V.st V.le V.ok;have u:Xr _:=Mv i m g;have X:Xr (da s b H w T f l):=h;generalize Bk i m g=A at *;obtain⟨L,c⟩:=A;simp only at y v u;clear h V;go_enter func21,ntmps21;go_upto_region 2 with (go_at_call 45;refine Ug y.o ?_;rintro e w1 ⟨C,rfl,W,U,K⟩)
 have D:Xr _:=K;have F:Xr _:=(X.o.lay (Kl C L) (a:=12) (Us ⟨by decide,rfl⟩) K W (fun q hq=>U q (PZ hq)));clear W U K;go_upto_region 3 with (go_at_call 46;refine Ug (v.o w1 D.o) ?_;rintro e r ⟨O,rfl,N⟩)
 have G:Xr _:=F.o.Yh N.Yu;have t:Xr (∀j n,(0<j/\j<=10)∨14<=j->fT H (12,f.length) (Kl C L) (j,n)=H (j,n)):=fun j n hj=>au _ _ (bG (by omega));have E:Xr _:=Kn b l _ w T f C O L r G.o Z hn (bV _ _ _) N.YF u.o;clear N;generalize wa C=ra at *;obtain⟨ac,ad⟩:=O;go_wp2_with (go_at_call 42;refine Ug E.o ?_;rintro e w3 ⟨rfl,Y,v',J,I,q1,q2,q3⟩);go_ret;exact⟨rfl,Y,v',J,I,q1,q2,fun j n hj=>(q3 j n (by omega)).trans (t.o j n (by omega))⟩
theorem Pn(b a:Xs)(w:World)(Q:World->Prop)(d:Calls prog 21 #[pointer (some ⟨n,0,none⟩),pointer (some ⟨x,0,none⟩),pointer (some ⟨S,0,none⟩),string b] w fun e c=>e=returned (bool true)/\Q c) :
  Calls prog 24 #[pointer (some ⟨n,0,none⟩),pointer (some ⟨x,0,none⟩),pointer (some ⟨S,0,none⟩),string b,string a,int i64 14] w fun e c=>e=returned (bool true)/\Q c:=by
 have f:Xr _:=d;clear d;go_enter func24,ntmps24;go_wp2_with (go_at_call 21;refine Ug f.o ?_;rintro e i ⟨rfl,g⟩);go_ret;exact⟨rfl,g⟩
theorem Sp(A C D:Int)(s t:Xs)(g:World)(h:da g b H w T f l)(hV:w.V.length≠0)(hA:rx A)(hN:l<=1073741824) :
  Calls prog 10 #[pointer (some ⟨b,0,none⟩),agg #[int i64 14,int i64 A,int i64 C,int i64 D,string s,string t]] g fun e j=>qn b H l e j:=by
 obtain⟨W,Q⟩:=bm (g.alloc (.cells #[int i64 14,int i64 A,int i64 C,int i64 D,string s,string t] 28));obtain⟨M,L,af,y⟩:=h.m.boxed 14 A C D s t W Q.o;have HT:Xr (da W b H w T f l):=h.Yh y;obtain⟨z,B,U,X,Y,Z,E⟩:=dx L;have HL:Xr _:=(l9 b l H w 14 A C D s t W M (by omega));have HS:Xr (iw W b g.heap.size H w l 14 A C D s t):=⟨M,L⟩;have ad:=h.m.len.1;have p:Xr (∀G,Calls prog 13 #[int i64 A,int i64 w.V.length] G fun e j=>e=returned (int i64 (fA A w.V.length:Nat))/\j=G):=fun G=>fJ A w.V.length G hA ⟨by omega,by omega⟩;have v:=hZ A w.V.length (by omega);obtain⟨i,Hi⟩:=bm (fA A w.V.length);rw[Hi.o]at p v;have ac:((w.V.length:Int)==0)=false:=Uz.2 (by omega);have ag:(i:Int)<(w.V.length:Int):=by omega
 clear h M L y;go_enter func10,ntmps10;go_upto_region 1 with fail
 rw[Q.o];go_upto_region 2 with (go_at_call 12;refine Ug HL.o ?_;rintro e F ⟨rfl,O⟩)
 have a:Xr (iw F b g.heap.size H w l 14 A C D s t):=HS.o.Yh O;have J:Xr (da F b H w T f l):=HT.o.Yh O;clear z B U X Y Z E O;obtain⟨z,B,-⟩:=dx a.o.o;have E:=aj a.o.o;have K:F.cell? ⟨b,0,none⟩=some (slice w.hx.ao w.V.length w.hx.cap):=by rw[ah a.o.m.Yv];rfl
 go_upto_region 4 with fail
 go_quiet ((go_at_call 13;exact UD (p.o _)));go_upto_region 5 with fail
 obtain⟨k,d⟩:=bm (F.drewN nq);rw[d.o];have c:Xr (iw k b g.heap.size H w l 14 A C D s t):=a.o.Yh (by rw[<-d.o];exact bM.drewN nq);have r:Xr (da k b H w T f l):=J.o.Yh (by rw[<-d.o];exact bM.drewN nq);clear z B E K;obtain⟨z,B,U,X,Y,Z,E⟩:=dx c.o.o;obtain⟨x,m,fs,hd,lo,hi,P,N,st,g1,g2,u,⟨R,z1,d1⟩,S,z2,d2⟩:=c.o.m.ver v;have K:k.cell? ⟨b,0,none⟩=some (slice w.hx.ao w.V.length w.hx.cap):=by rw[ah c.o.m.Yv];rfl
 have c1:k.cell? ⟨b,1,none⟩=some (slice w.hm.ao w.V.length w.hm.cap):=by rw[ah c.o.m.Yv];rfl
 rw[R]at K;rw[S]at c1;have I:Xr (Calls prog 21 #[pointer (some ⟨b,0,none⟩),pointer (some ⟨x,0,none⟩),pointer (some ⟨m,0,none⟩),string s] k fun e j=>qn b H l e j):=(wk b (l+1) H w T f i x m fs hd lo hi P N st s k r.o.more (by omega) (by have:=r.o.t.n;omega) u).mono (fun e j q=>CX.ms q);clear u R S;go_wp2_with (go_at_call 21;refine Ug I.o ?_;rintro e w3 ⟨rfl,q1⟩);go_ret;exact⟨rfl,q1⟩
theorem QN:xm (XT 14):=by
 rintro b N I M j c ⟨k,A,C,D,s,t⟩ w h p F H r;obtain⟨u,B,v,O,G,L⟩:=F;rcases H with e | ⟨e,d⟩
 ·replace e:k=14:=e;subst e;exact Sp b N I M j c A C D s t w h r u p
 ·replace e:k=19:=e;replace d:D=14:=d;subst e d;exact Sq b N I M j c A C 14 s t w h r u B p (fun i x m z v J E l g K a y o f=>Pn b x m a s y _ ((wk b (N+1) I M j c i x m z v J E l g K a y o.more (by omega) (by have:=o.t.n;omega) f).mono (fun e P q=>CX.ms q)))
theorem CB(f:Xu)(a:Nat)(l:List nI)(w:World)(j:l.length*64<=140737488351232)(i:m9 w f l)(k:∀o∈l,zz o) :
  Calls prog 5 #[slice f l.length a] w fun e s=>e=returned (bool true)/\ae [] w s:=by
 have c:Xr _:=NP f a 14 l w j i;have m:Xr _:=k;clear i k;go_enter func5,ntmps5;go_upto_region 2 with (go_at_call 7;refine Ug c.o ?_;rintro e t ⟨n,rfl,g⟩)
 have b:Xr _:=g.Yu;have d:Xr _:=(Sf 14 ⟨by decide,by decide⟩ QN (by decide) j m.o g);clear g;obtain⟨p,q⟩:=n;go_wp2_with (go_at_call 6;refine Ug d.o ?_;rintro e u ⟨rfl,r⟩);go_ret;exact⟨rfl,(b.o.alloc _).trans r⟩
end Go.Proofs.YtnbhnocdhbcbcaaGreat
