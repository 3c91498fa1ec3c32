import Derived.BigQuiet
import Derived.Deep.RegionHeld3
import Derived.Test.YtpddjjabfbfifaaGreatG05
namespace Go.Proofs.YtpddjjabfbfifaaGreat
open Go.RowKit Tryz
set_option maxRecDepth 100000
set_option maxHeartbeats 40000000
variable{H k:World}{l I:Nat}{v:Nat->Hd}{L:List St}{o:Hd}(a:List St)(i:Nat)(d:ByteArray)(n:Pl)(S:Nat)(D:pA)(f:List (ByteArray×Pl))(x:List Nat)(y:Nat)(T:ByteArray)(w:Nat)(b:Fs)
structure nF where
 kind:Int
 U7:Nat
 at_:Pl
def lh(s:nF):List Value:=[.int .i64 s.kind,.int .i64 s.U7,.string s.at_.file,.int .i64 s.at_.line,.int .i64 s.at_.col]
def xi(l:List nF):List Value:=l.flatMap lh
def go(l:List nF):dN:=⟨174,5,l.length,xi l⟩
theorem uh(l:List nF)(s:nF):(⟨(go l).e,(go l).size,(go l).n+1,(go l).xs++lh s⟩:dN)=go (l++[s]):=by simp[go,xi]
theorem un(s:nF):∀u∈lh s,u.oneCell'=true:=by
 intro u a;simp only[lh,List.mem_cons,List.not_mem_nil,or_false]at a
 rcases a with rfl | rfl | rfl | rfl | rfl <;> rfl
theorem OB:(prog.info? 174).map (fun i=>(i.zero,i.size,i.bytes))=some (some (.agg #[.int .i64 0,.int .i64 0,.string ⟨#[]⟩,.int .i64 0,.int .i64 0]),5,48):=by kernel_rfl
structure mg where
 names:List Nat
 Vj:List Nat
 steps:List nF
 Vd:Nat
 behind:Bool
def wW(c:mg):Nat->dN
 | 0=>bB c.names
 | 1=>bB c.Vj
 | 2=>go c.steps
 | _+3=>bB []
def lF(c:mg)(H:Nat->Hd):List Value :=
 [.slice (H 0).ao c.names.length (H 0).cap,.slice (H 1).ao c.Vj.length (H 1).cap,.slice (H 2).ao c.steps.length (H 2).cap,.int .i64 c.Vd,.bool c.behind]
def dL(w:World)(b:Nat)(c:mg)(H:Nat->Hd):Prop:=a8 w b 279 (lF c H) (wW c) H
theorem dL.cells{c:mg}(h:dL H l c v) :
  H.cell? ⟨l,0,none⟩=some (.slice (v 0).ao c.names.length (v 0).cap)/\H.cell? ⟨l,1,none⟩=some (.slice (v 1).ao c.Vj.length (v 1).cap)/\H.cell? ⟨l,2,none⟩=some (.slice (v 2).ao c.steps.length (v 2).cap) /\
  H.cell? ⟨l,3,none⟩=some (.int .i64 c.Vd)/\H.cell? ⟨l,4,none⟩=some (.bool c.behind) :=
 ⟨a8.cell h 0,a8.cell h 1,a8.cell h 2,a8.cell h 3,a8.cell h 4⟩
structure gu(c:mg)(N:Nat):Prop where
 names:c.names.length<=N
 Vj:c.Vj.length<=N
 steps:c.steps.length<=N
 Vd:c.Vd<=10*N+5
 behind:c.behind=true->0<c.steps.length
def eC(c:mg)(s:nF):mg:={ c with steps:=c.steps++[s],behind:=false }
theorem pD(c:mg)(H:Nat->Hd)(k:Int)(n:Nat)(f:ByteArray)(l a:Int)(i:World)(h:dL i w c H)(J:gu c 10000000) :
  Calls prog 244 #[.pointer (some ⟨w,0,none⟩),.agg #[.int .i64 k,.int .i64 n,.string f,.int .i64 l,.int .i64 a]] i fun e G=>e=.returned (.tuple #[])/\∃D,dL G w (eC c ⟨k,n,⟨f,l,a⟩⟩) D/\aA w i H G D/\∀j,j≠2->D j=H j:=by
 obtain⟨i0,hi,E,x,A⟩:=Re OB;have L:=J.steps;obtain⟨W,v⟩:∃W,W=i.alloc (.cells #[.int .i64 k,.int .i64 n,.string f,.int .i64 l,.int .i64 a] 174):=⟨_,rfl⟩
 have K:ab [] i W:=by rw[v];exact(ab.refl [] _).alloc _
 have t:dL W w c H:=a8.Vb h K;have B:W.heap[i.heap.size]?=some (.cells #[.int .i64 k,.int .i64 n,.string f,.int .i64 l,.int .i64 a] 174 (0,0)):=by rw[v];exact QS _ _
 have T:W.cell? ⟨i.heap.size,0,none⟩=some (.int .i64 k):=by rw[aa B];rfl
 have O:W.cell? ⟨i.heap.size,1,none⟩=some (.int .i64 n):=by rw[aa B];rfl
 have Y:W.cell? ⟨i.heap.size,2,none⟩=some (.string f):=by rw[aa B];rfl
 have y3:W.cell? ⟨i.heap.size,3,none⟩=some (.int .i64 l):=by rw[aa B];rfl
 have U:W.cell? ⟨i.heap.size,4,none⟩=some (.int .i64 a):=by rw[aa B];rfl
 obtain⟨Q,c1,c2,R,X⟩:=t.cells;clear Q c1 R;have y:=a8.free t;have P:=a8.lt t;have ac:=ae B;have I:Hid (dL (W.alloc (.cells #[.int .i64 k,.int .i64 n,.string f,.int .i64 l,.int .i64 a] 174)).drew w c H):=a8.Vb t ((ab.refl [] W).alloc _).drew
 have S:Hid (∀j u,(lh ⟨k,n,⟨f,l,a⟩⟩)[j]?=some u->(W.alloc (.cells #[.int .i64 k,.int .i64 n,.string f,.int .i64 l,.int .i64 a] 174)).drew.cell? ((⟨W.heap.size,0,none⟩:Addr).add j)=some u):=by
  intro j u p;have hk:(W.alloc (.cells #[.int .i64 k,.int .i64 n,.string f,.int .i64 l,.int .i64 a] 174)).drew.heap[W.heap.size]?=some (.cells #[.int .i64 k,.int .i64 n,.string f,.int .i64 l,.int .i64 a] 174 (0,0)):=QS _ _;rw[bL,aa hk];simpa [lh] using p
 have s4:Hid ((go c.steps).n+1<=maxLen):=by show _<=_;simp only[go];unfold maxLen;omega
 have s5:Hid (((go c.steps).n+1)*48<=140737488355328):=by show _<=_;simp only[go];omega
 have V:=hI v.symm
 have z:Hid (∀j,j≠2->wW { c with steps:=c.steps++[⟨k,n,⟨f,l,a⟩⟩] } j=wW c j):=by
  intro j p
  match j,p with
  | 0,_=>rfl
  | 1,_=>rfl
  | 2,p=>exact absurd rfl p
  | m+3,_=>rfl
 clear v B h;go_enter func244,ntmps244
 go_upto_region 1 with fail
 rw[V.out]
 go_region_law (refine cd rfl (.tmp 8) (.tmp 10) 163 rfl i0 (.agg #[.int .i64 0,.int .i64 0,.string ⟨#[]⟩,.int .i64 0,.int .i64 0]) 48 (H 2) (go c.steps) underlying163 hi E x A rfl (Uz 4) (by simp[Act.eval] <;> rfl) (a8.own I.out 2) ⟨W.heap.size,0,none⟩ 1 1 (lh ⟨k,n,⟨f,l,a⟩⟩) (by simp[Act.eval]) rfl S.out (un _) Rc s4.out s5.out ?_;intro g o w1 r q b;obtain⟨Z,N,s⟩:=a8.app I.out (cs':=lF { c with steps:=c.steps++[⟨k,n,⟨f,l,a⟩⟩] } (g9 H 2 ⟨some ⟨g,0,none⟩,o⟩)) (rows':=wW { c with steps:=c.steps++[⟨k,n,⟨f,l,a⟩⟩] }) 2 2 g o ((go c.steps).n+1) _ r (uh c.steps ⟨k,n,⟨f,l,a⟩⟩) q (by simpa using b) z.out (.slice (H 2).ao c.steps.length (H 2).cap) rfl (by simp[lF,g9,go]);clear r q b)
 all_goals
  have F:=hI (a8.set s.out.1 4 (.bool false));have C:=(a8.cell s.out.1 4);have M:=a8.free s.out.1;simp only[lF,List.getElem?_cons_succ,List.getElem?_cons_zero]at C;clear c2 X y T O Y y3 U Z N;go_wp2;go_end0;exact⟨rfl,_,F.out.1,((s.out.2.first ((ab.refl [] _).alloc _).drew).first K).trans F.out.2,fun j p=>bU _ _ _ _ p⟩
def mN(c:mg)(d:Nat):mg:=if c.Vd<=c.names.length+c.Vj.length then { c with behind:=false,Vd:=c.Vd*5+d } else { c with behind:=false }
theorem dL.digs{c:mg}(h:dL H l c v)(n:Nat):Hid (dL (H.setCell ⟨l,3,none⟩ (.int .i64 n)) l { c with Vd:=n } v/\aA l H v (H.setCell ⟨l,3,none⟩ (.int .i64 n)) v):=a8.set h 3 (.int .i64 n)
theorem dL.beh{c:mg}(h:dL H l c v)(x:Bool):Hid (dL (H.setCell ⟨l,4,none⟩ (.bool x)) l { c with behind:=x } v/\aA l H v (H.setCell ⟨l,4,none⟩ (.bool x)) v):=a8.set h 4 (.bool x)
theorem dL.Vb{c:mg}(h:dL H l c v)(a:ab [] H k):dL k l c v:=a8.Vb h a
theorem xT(c:mg)(H:Nat->Hd)(d:Nat)(p:World)(h:dL p w c H)(q:gu c 10000000)(z:d<=5) :
  Calls prog 243 #[.pointer (some ⟨w,0,none⟩),.int .i64 d] p fun e t=>e=.returned (.tuple #[])/\dL t w (mN c d) H/\aA w p H t H:=by
 have x:=q.names;have y:=q.Vj;have A:=q.Vd;obtain⟨i,l,m,j,k⟩:=h.cells;have f:=a8.free h;have b:=h.beh false;obtain⟨v,g⟩:∃v,v=p.setCell ⟨w,4,none⟩ (.bool false):=⟨_,rfl⟩
 have o:=hI g.symm;rw[<-g]at b;clear g
 by_cases n:c.Vd<=c.names.length+c.Vj.length
 ·have r:Hid (mN c d={ c with behind:=false,Vd:=c.Vd*5+d }):=QW n
  go_enter func243,ntmps243
  go_upto_region 1 with fail
  rw[o.out];clear i l m j k f o;obtain⟨i,l,m,j,k⟩:=b.out.1.cells;simp only at i l j;clear m k;have f:=a8.free b.out.1;have u:(c.Vd:Int)<=(c.names.length:Int)+(c.Vj.length:Int):=by omega
  go_quiet (fail)
  have s:=b.out.1.digs (c.Vd*5+d);rw[show((c.Vd*5+d:Nat):Int)=(c.Vd:Int)*5+(d:Int) by omega]at s;go_wp2;go_end0;exact⟨rfl,by rw[r.out];exact s.out.1.Vb ((ab.refl [] _).drewN nq),aA.trans b.out.2 (aA.Vb s.out.2 ((ab.refl [] _).drewN nq))⟩
 ·have r:Hid (mN c d={ c with behind:=false }):=QT n
  go_enter func243,ntmps243
  go_upto_region 1 with fail
  rw[o.out];clear i l m j k f o;obtain⟨i,l,m,j,k⟩:=b.out.1.cells;simp only at i l j;clear m k
  go_quiet (fail)
  go_wp2;go_end0;exact⟨rfl,by rw[r.out];exact b.out.1.Vb ((ab.refl [] _).drewN nq),aA.Vb b.out.2 ((ab.refl [] _).drewN nq)⟩
def kF(c:mg)(u:Nat)(p:Pl):Int×mg :=
 if c.Vd*20+u-1<c.names.length then(0,{ eC { c with Vd:=0 } ⟨2,c.names.getD (c.Vd*20+u-1) 0,p⟩ with behind:=true })
 else if c.Vd*20+u-1-c.names.length<c.Vj.length then(0,{ eC { c with Vd:=0 } ⟨3,c.Vj.getD (c.Vd*20+u-1-c.names.length) 0,p⟩ with behind:=true })
 else(5,{ c with Vd:=0 })
theorem P7(h:w<x.length):x.getD w 0=x[w]:=by rw[QQ,QP h];rfl
theorem KQ(w:World)(f:ByteArray)(l c:Int) :
  ∃W,Hid (w.alloc (.cells #[.string f,.int .i64 l,.int .i64 c] 36)=W)/\ab [] w W/\W.heap[w.heap.size]?=some (.cells #[.string f,.int .i64 l,.int .i64 c] 36 (0,0))/\W.cell? ⟨w.heap.size,0,none⟩=some (.string f)/\W.cell? ⟨w.heap.size,1,none⟩=some (.int .i64 l)/\W.cell? ⟨w.heap.size,2,none⟩=some (.int .i64 c):=by
 have B:(w.alloc (.cells #[.string f,.int .i64 l,.int .i64 c] 36)).heap[w.heap.size]?=some (.cells #[.string f,.int .i64 l,.int .i64 c] 36 (0,0)):=QS _ _;refine⟨_,rfl,(ab.refl [] _).alloc _,B,?_,?_,?_⟩ <;> rw[aa B] <;> rfl
theorem vX(c:mg)(H:Nat->Hd)(u:Nat)(f:ByteArray)(l d:Int)(i:World)(h:dL i w c H)(G:gu c 10000000)(hu:1<=u)(ai:u<=20) :
  Calls prog 242 #[.pointer (some ⟨w,0,none⟩),.int .i64 u,.agg #[.string f,.int .i64 l,.int .i64 d]] i fun e w'=>e=.returned (.int .i64 (kF c u ⟨f,l,d⟩).1)/\∃H',dL w' w (kF c u ⟨f,l,d⟩).2 H'/\aA w i H w' H':=by
 have h1:=G.names;have h2:=G.Vj;have h3:=G.Vd;obtain⟨W,HW,K,B,p0,p1,p2⟩:=KQ i f l d;have hC:=h.Vb K;have Y:i.heap.size≠w:=by have:=a8.lt h;omega
 have ag:Hid (∀k,f9 H k->k≠i.heap.size):=fun k hk=>by have:=a8.inlt h hk;omega
 obtain⟨y,z,c2,V,X⟩:=hC.cells;have M:=a8.free hC;have r:Hid (dL (W.setCell ⟨w,3,none⟩ (.int .i64 0)) w { c with Vd:=0 } H/\aA w W H (W.setCell ⟨w,3,none⟩ (.int .i64 0)) H):=hC.digs 0;obtain⟨m,n⟩:∃m,m=W.setCell ⟨w,3,none⟩ (.int .i64 0):=⟨_,rfl⟩
 have F:=hI n.symm;rw[<-n]at r;have Q:m.heap[i.heap.size]?=some (.cells #[.string f,.int .i64 l,.int .i64 d] 36 (0,0)):=by rw[n];exact(Q4 _ _ _ _ Y).trans B
 have r0:m.cell? ⟨i.heap.size,0,none⟩=some (.string f):=by rw[aa Q];rfl
 have r1:m.cell? ⟨i.heap.size,1,none⟩=some (.int .i64 l):=by rw[aa Q];rfl
 have r2:m.cell? ⟨i.heap.size,2,none⟩=some (.int .i64 d):=by rw[aa Q];rfl
 clear n h;have I:gu { c with Vd:=0 } 10000000:=⟨h1,h2,G.steps,Ro _,G.behind⟩;have ac:Hid (c.Vd*20+u-1=c.Vd*20+(u-1)):=by show _=_;omega
 obtain⟨v,hv⟩:∃v,u=v+1:=⟨u-1,by omega⟩
 subst hv;have p:Hid (c.Vd*20+(v+1)-1=c.Vd*20+v):=by show _=_;omega
 have D:(c.Vd:Int)*20+((v:Int)+1)-1=((c.Vd*20+v:Nat):Int):=by omega
 obtain⟨a,t⟩:∃a,c.Vd*20+v=a:=⟨_,rfl⟩
 have A:Hid (kF c (v+1) ⟨f,l,d⟩=if a<c.names.length then(0,{ eC { c with Vd:=0 } ⟨2,c.names.getD a 0,⟨f,l,d⟩⟩ with behind:=true }) else if a-c.names.length<c.Vj.length then(0,{ eC { c with Vd:=0 } ⟨3,c.Vj.getD (a-c.names.length) 0,⟨f,l,d⟩⟩ with behind:=true }) else(5,{ c with Vd:=0 })):=by
  show _=_;unfold kF;rw[p.out,t]
 rw[t]at D;have af:a<=4000000000:=by omega
 go_enter func242,ntmps242
 go_upto_region 1 with fail
 rw[HW.out]
 go_upto_region 3 with fail
 rw[F.out];clear HW F y z c2 V X M p0 p1 p2 D p ac t;obtain⟨y,z,c2,V,X⟩:=r.out.1.cells;simp only at y z;clear c2 V X;have T2:Hid (aA w i H m H):=aA.first K r.out.2
 by_cases E:a<c.names.length
 ·have J:=P7 c.names a E
  have q:Hid (kF c (v+1) ⟨f,l,d⟩=(0,{ eC { c with Vd:=0 } ⟨2,c.names[a],⟨f,l,d⟩⟩ with behind:=true })):=by show _=_;rw[A.out,QW E,J]
  have s:aw m (H 0) (bB c.names):=a8.own r.out.1 0
  rcases s.Vm with ⟨_,T,_⟩ | ⟨g,U,p,-,e3,-⟩
  ·have:c.names.length=0:=T
   omega
  ·have S:=s.cell p a (.int .i64 c.names[a]) (jP c.names a E)
   rw[p]at y;have ad:c.names.length<=(H 0).cap:=e3;generalize c.names[a]=nx at *;clear s A z J
   go_upto_region 4 with fail
   go_region_with (go_at_call 244;refine(pD w { c with Vd:=0 } H 2 nx f l d _ (by exact r.out.1.Vb (ab.refl [] _).drew) I).mono ?_;rintro e w9 ⟨rfl,Z,x,N,-⟩)
   all_goals
    have C:=x.beh true;obtain⟨d0,d1,O,R,d4⟩:=x.cells;have P:=a8.free x;clear d0 d1 O R S y r0 r1 r2;go_wp2;go_ret;exact⟨QN (by rw[q.out]),Z,by rw[q.out];exact C.out.1,aA.trans T2.out (aA.trans (aA.first (ab.refl [] _).drew N) C.out.2)⟩
 ·have al:(a:Int)-(c.names.length:Int)=((a-c.names.length:Nat):Int):=by omega
  by_cases L:a-c.names.length<c.Vj.length
  ·have J:=P7 c.Vj (a-c.names.length) L
   have q:Hid (kF c (v+1) ⟨f,l,d⟩=(0,{ eC { c with Vd:=0 } ⟨3,c.Vj[a-c.names.length],⟨f,l,d⟩⟩ with behind:=true })):=by show _=_;rw[A.out,QT E,QW L,J]
   have s:aw m (H 1) (bB c.Vj):=a8.own r.out.1 1
   rcases s.Vm with ⟨_,T,_⟩ | ⟨g,U,p,-,e3,-⟩
   ·have:c.Vj.length=0:=T
    omega
   ·have S:=s.cell p (a-c.names.length) (.int .i64 c.Vj[a-c.names.length]) (jP c.Vj _ L)
    rw[p]at z;have ad:c.Vj.length<=(H 1).cap:=e3;generalize c.Vj[a-c.names.length]=nx at *;clear s A J;generalize hj:a-c.names.length=j at *
    go_upto_region 9 with fail
    go_region_with (go_at_call 244;refine(pD w { c with Vd:=0 } H 3 nx f l d _ (by exact r.out.1.Vb (ab.refl [] _).drew) I).mono ?_;rintro e w9 ⟨rfl,Z,x,N,-⟩)
    all_goals
     have C:=x.beh true;obtain⟨d0,d1,O,R,d4⟩:=x.cells;have P:=a8.free x;clear d0 d1 O R S y z r0 r1 r2;go_wp2;go_ret;exact⟨QN (by rw[q.out]),Z,by rw[q.out];exact C.out.1,aA.trans T2.out (aA.trans (aA.first (ab.refl [] _).drew N) C.out.2)⟩
  ·have q:Hid (kF c (v+1) ⟨f,l,d⟩=(5,{ c with Vd:=0 })):=by show _=_;rw[A.out,QT E,QT L]
   clear A;generalize hj:a-c.names.length=j at *;go_wp2;go_ret;exact⟨QN (by rw[q.out]),H,by rw[q.out];exact r.out.1,T2.out⟩
def cD(c:mg)(n:Nat)(p:Pl):Int×mg :=
 if 65<=n/\n<=84 then kF c (n-64) p
 else if 85<=n/\n<=89 then(0,mN c (n-84))
 else if n=90/\c.behind=true then(0,{ c with Vj:=c.Vj++[c.steps.length-1],behind:=false })
 else if n=63/\c.Vd=0 then(0,eC c ⟨1,0,p⟩)
 else(4,c)
theorem xp(c:mg)(H:Nat->Hd)(n:Nat)(f:ByteArray)(l k:Int)(S:World)(h:dL S w c H)(C:gu c 10000000)(hn:n<256) :
  Calls prog 217 #[.pointer (some ⟨w,0,none⟩),.int .u8 n,.agg #[.string f,.int .i64 l,.int .i64 k]] S fun e t=>e=.returned (.int .i64 (cD c n ⟨f,l,k⟩).1)/\∃H',dL t w (cD c n ⟨f,l,k⟩).2 H'/\aA w S H t H':=by
 have ax:=C.steps;have aS:=C.Vj;obtain⟨W,y,K,B,p0,p1,p2⟩:=KQ S f l k;have r:=h.Vb K;clear h;obtain⟨I,O,Q,L,D⟩:=r.cells;have U:=a8.free r;have ap:=a8.lt r
 by_cases i:65<=n/\n<=84
 ·have a:Hid (cD c n ⟨f,l,k⟩=kF c (n-64) ⟨f,l,k⟩):=QW i
  have EN:=fun(t:World) (h':dL t w c H)=>vX w c H (n-64) f l k t h' C (by omega) (by omega)
  have af:=hI EN;obtain⟨a1,a2⟩:=i;have he:(n:Int)-65+1=((n-64:Nat):Int):=by omega
  clear EN I O Q L D;generalize V:n-64=q at *;go_enter func217,ntmps217
  go_upto_region 1 with fail
  rw[y.out];go_wp2_with fail;refine(af.out _ r).mono ?_;rintro e w2 ⟨rfl,T,v,P⟩;go_wp2;go_ret;exact⟨QN (by rw[a.out]),T,by rw[a.out];exact v,aA.first K P⟩
 ·by_cases p:85<=n/\n<=89
  ·have a:Hid (cD c n ⟨f,l,k⟩=(0,mN c (n-84))):=by show _=_;unfold cD;rw[QT i,QW p]
   obtain⟨a1,a2⟩:=p;have TD:=fun(t:World) (h':dL t w c H)=>xT w c H (n-84) t h' C (by omega)
   have ac:=hI TD;have he:(n:Int)-85+1=((n-84:Nat):Int):=by omega
   have ar:¬n<=84:=by omega
   clear TD I O Q L D i;generalize V:n-84=q at *;go_enter func217,ntmps217
   go_upto_region 1 with fail
   rw[y.out];go_wp2_with fail;refine(ac.out _ r).mono ?_;rintro e w2 ⟨rfl,v,P⟩;go_wp2;go_ret;exact⟨QN (by rw[a.out]),H,by rw[a.out];exact v,aA.first K P⟩
  ·by_cases s:n=90/\c.behind=true
   ·have a:Hid (cD c n ⟨f,l,k⟩=(0,{ c with Vj:=c.Vj++[c.steps.length-1],behind:=false })):=by show _=_;unfold cD;rw[QT i,QT p,QW s]
    obtain⟨rfl,o⟩:=s;have ai:=C.behind o;rw[o]at D;obtain⟨b,N⟩:∃b,c.steps.length-1=b:=⟨_,rfl⟩
    have he:(c.steps.length:Int)-1=(b:Int):=by omega
    rw[N]at a;have an:IntKind.i64.wrap (b:Int)=(b:Int):=by rw[R9];omega
    obtain⟨i0,hi,Y,Z,X⟩:=Re yH;have hD:Hid (dL (W.alloc (.cells #[.int .i64 b] 3)).drew w c H):=r.Vb ((ab.refl [] W).alloc _).drew
    have s2:Hid (∀j u,([.int .i64 b]:List Value)[j]?=some u->(W.alloc (.cells #[.int .i64 b] 3)).drew.cell? ((⟨W.heap.size,0,none⟩:Addr).add j)=some u):=by
     intro j u E;have hk:(W.alloc (.cells #[.int .i64 b] 3)).drew.heap[W.heap.size]?=some (.cells #[.int .i64 b] 3 (0,0)):=QS _ _;rw[bL,aa hk];simpa using E
    have s3:Hid (∀u∈([.int .i64 b]:List Value),u.oneCell'=true):=by intro u hu;simp at hu;subst hu;rfl
    have s4:Hid ((bB c.Vj).n+1<=maxLen):=by show _<=_;simp only[bB];unfold maxLen;omega
    have s5:Hid (((bB c.Vj).n+1)*8<=140737488355328):=by show _<=_;simp only[bB];omega
    have ad:Hid (∀j,j≠1->wW { c with Vj:=c.Vj++[b] } j=wW c j):=by
     intro j E
     match j,E with
     | 0,_=>rfl
     | 1,E=>exact absurd rfl E
     | 2,_=>rfl
     | m+3,_=>rfl
    clear I L i p p0 p1 p2;go_enter func217,ntmps217
    go_upto_region 1 with fail
    rw[y.out];go_wp2_with fail
    go_region_law (refine cd rfl (.tmp 44) (.tmp 51) 26 rfl i0 (.int .i64 0) 8 (H 1) (bB c.Vj) underlying26 hi Y Z X rfl Rc (by simp[Act.eval] <;> rfl) (a8.own hD.out 1) ⟨W.heap.size,0,none⟩ 1 1 [.int .i64 b] (by simp[Act.eval]) rfl s2.out s3.out Rc s4.out s5.out ?_;intro g x w1 J M d;obtain⟨k5,f5,R⟩:=a8.app hD.out (cs':=lF { c with Vj:=c.Vj++[b] } (g9 H 1 ⟨some ⟨g,0,none⟩,x⟩)) (rows':=wW { c with Vj:=c.Vj++[b] }) 1 1 g x ((bB c.Vj).n+1) _ J (mv c.Vj b) M (by simpa using d) ad.out (.slice (H 1).ao c.Vj.length (H 1).cap) rfl (by simp[lF,g9,bB]);clear J M d)
    all_goals
     have v:=hI (a8.set R.out.1 4 (.bool false));have ag:=(a8.cell R.out.1 4);have az:=a8.free R.out.1;simp only[lF,List.getElem?_cons_succ,List.getElem?_cons_zero,o]at ag;clear O Q D U k5 f5;go_wp2;go_ret;exact⟨QN (by rw[a.out]),_,by rw[a.out];exact v.out.1,((R.out.2.first ((ab.refl [] _).alloc _).drew).first K).trans v.out.2⟩
   ·by_cases z:n=63/\c.Vd=0
    ·have a:Hid (cD c n ⟨f,l,k⟩=(0,eC c ⟨1,0,⟨f,l,k⟩⟩)):=by show _=_;unfold cD;rw[QT i,QT p,QT s,QW z]
     obtain⟨rfl,A⟩:=z;rw[A]at L;clear I O Q i p s;go_enter func217,ntmps217
     go_upto_region 1 with fail
     rw[y.out];go_wp2_with fail;refine(pD w c H 1 0 f l k _ r C).mono ?_;rintro e w2 ⟨rfl,T,v,P,-⟩;go_wp2;go_ret;exact⟨QN (by rw[a.out]),T,by rw[a.out];exact v,aA.first K P⟩
    ·have a:Hid (cD c n ⟨f,l,k⟩=(4,c)):=by show _=_;unfold cD;rw[QT i,QT p,QT s,QT z]
     clear I O Q
     by_cases F:n=90
     ·have o:c.behind=false:=by
       cases V:c.behind with
       | false=>rfl
       | true=>exact absurd ⟨F,V⟩ s
      rw[o]at D;subst F;clear i p s z;go_enter func217,ntmps217
      go_upto_region 1 with fail
      rw[y.out];go_wp2;go_ret;exact⟨QN (by rw[a.out]),H,by rw[a.out];exact r,(aA.refl _ _ _).Vb K⟩
     ·by_cases G:n=63
      ·have A:¬c.Vd=0:=fun hh=>z ⟨G,hh⟩
       have al:((c.Vd:Int)==0)=false:=Rh.2 (by omega);subst G;clear i p s z A;go_enter func217,ntmps217
       go_upto_region 1 with fail
       rw[y.out];go_wp2;go_ret;exact⟨QN (by rw[a.out]),H,by rw[a.out];exact r,(aA.refl _ _ _).Vb K⟩
      ·have e1:((n:Int)==90)=false:=Rh.2 (by omega)
       have e2:((n:Int)==63)=false:=Rh.2 (by omega);clear s z L D
       by_cases a1:65<=n
       ·have a2:¬n<=84:=by omega
        have a3:85<=n:=by omega
        have a4:¬n<=89:=by omega
        clear i p;go_enter func217,ntmps217
        go_upto_region 1 with fail
        rw[y.out];go_wp2;go_ret;exact⟨QN (by rw[a.out]),H,by rw[a.out];exact r,(aA.refl _ _ _).Vb K⟩
       ·have a3:¬85<=n:=by omega
        clear i p;go_enter func217,ntmps217
        go_upto_region 1 with fail
        rw[y.out];go_wp2;go_ret;exact⟨QN (by rw[a.out]),H,by rw[a.out];exact r,(aA.refl _ _ _).Vb K⟩
theorem gu.letter{c:mg}(h:gu c l)(n:Nat)(p:Pl):gu (cD c n p).2 (l+1):=by
  have b:=h.names;have d:=h.Vj;have f:=h.steps;have e:=h.Vd;have a:=h.behind;unfold cD
  split
  · unfold kF eC
    split
    · exact⟨by simp only;omega,by simp only;omega,by simp;omega,by simp,by simp⟩
    · split
      · exact⟨by simp only;omega,by simp only;omega,by simp;omega,by simp,by simp⟩
      · exact⟨by simp only;omega,by simp only;omega,by simp only;omega,by simp,a⟩
  · split
    · next g =>
      unfold mN
      split
      · exact⟨by simp only;omega,by simp only;omega,by simp only;omega,by simp only;omega,by simp⟩
      · exact⟨by simp only;omega,by simp only;omega,by simp only;omega,by simp only;omega,by simp⟩
    · split
      · exact⟨by simp only;omega,by simp;omega,by simp only;omega,by simp only;omega,by simp⟩
      · split
        · exact⟨by simp only[eC];omega,by simp only[eC];omega,by simp[eC];omega,by simp only[eC];omega,by simp[eC]⟩
        · exact⟨by simp only;omega,by simp only;omega,by simp only;omega,by simp only;omega,a⟩
def iQ(t:ByteArray)(p:Pl):Nat->Nat->mg->pA×mg
  | 0,_,c=>(cY,c)
  | f+1,j,c =>
    if j<t.size then
      (if((cD c (aF t j).toNat { p with col:=p.col+j }).1==0)=true then iQ t p f (j+1) (cD c (aF t j).toNat { p with col:=p.col+j }).2
       else(((cD c (aF t j).toNat { p with col:=p.col+j }).1,{ p with col:=p.col+j }),(cD c (aF t j).toNat { p with col:=p.col+j }).2))
    else(cY,c)
def mT(t:ByteArray)(p:Pl)(c:mg):pA×mg:=iQ t p (t.size+1) 0 c
theorem Qn(c:mg)(b:w<d.size)(h:((cD c (aF d w).toNat { n with col:=n.col+w }).1==0)=true) :
    iQ d n (y+1) w c=iQ d n y (w+1) (cD c (aF d w).toNat { n with col:=n.col+w }).2:=by rw[iQ,QW b,QW h]
theorem Ok(c:mg)(b:w<d.size)(h:((cD c (aF d w).toNat { n with col:=n.col+w }).1==0)=false) :
    iQ d n (y+1) w c=(((cD c (aF d w).toNat { n with col:=n.col+w }).1,{ n with col:=n.col+w }),(cD c (aF d w).toNat { n with col:=n.col+w }).2):=by rw[iQ,QW b,QT (by rw[h];simp)]
theorem Pz(c:mg)(a:¬w<d.size):iQ d n (y+1) w c=(cY,c):=by rw[iQ,QT a]
theorem da(h:H.heap[l]?=some (.cells bA 165 (0,0))) :
    H.cell? ⟨l,0,none⟩=some (.int .i64 0)/\H.cell? ⟨l,1,none⟩=some (.string ⟨#[]⟩)/\H.cell? ⟨l,2,none⟩=some (.int .i64 0)/\H.cell? ⟨l,3,none⟩=some (.int .i64 0):=by
  refine⟨?_,?_,?_,?_⟩ <;> (rw[aa h];rfl)
theorem vk{F:Nat}{e:List Value}{a:Nat->dN}{b:Nat->Hd}(D:a8 k l I e a b)(T:aA l H v k b)(c:H.heap.size<=F)(i:l≠F)(j:¬f9 b F)(d g h f:Value) :
    a8 ((((k.setCell ⟨F,0,none⟩ d).setCell ⟨F,1,none⟩ g).setCell ⟨F,2,none⟩ h).setCell ⟨F,3,none⟩ f) l I e a b /\
    aA l H v ((((k.setCell ⟨F,0,none⟩ d).setCell ⟨F,1,none⟩ g).setCell ⟨F,2,none⟩ h).setCell ⟨F,3,none⟩ f) b:=by
  refine⟨D.kept (ji _ _ _ _) (by simpa using i) (fun x m=>by simp;rintro rfl;exact j m),?_,T.2⟩;exact(((T.1.setCell (QV c) _).setCell (QV c) _).setCell (QV c) _).setCell (QV c) _
theorem AD(c:mg)(H:Nat->Hd)(t f:ByteArray)(l b:Int)(a:World)(h:dL a w c H)(N:Nat)(ok:gu c N)(hN:N+t.size<=10000000)(ao:-1000000000<=b/\b<=1000000000) :
    Calls prog 184 #[.pointer (some ⟨w,0,none⟩),.agg #[.string t,.string f,.int .i64 l,.int .i64 b]] a fun e m=>e=.returned (gU (mT t ⟨f,l,b⟩ c).1)/\∃o,dL m w (mT t ⟨f,l,b⟩ c).2 o/\aA w a H m o:=by
  obtain⟨W,O⟩:∃W,W=(a.alloc (.cells #[.string t,.string f,.int .i64 l,.int .i64 b] 229)).alloc (.cells #[.int .i64 0,.string ⟨#[]⟩,.int .i64 0,.int .i64 0] 165):=⟨_,rfl⟩
  have K:ab [] a W:=by rw[O];exact((ab.refl [] _).alloc _).alloc _
  have M:W.heap[a.heap.size]?=some (.cells #[.string t,.string f,.int .i64 l,.int .i64 b] 229 (0,0)):=by rw[O];exact((ab.refl [] _).alloc _).get (QS _ _) (by simp)
  have BF:W.heap[a.heap.size+1]?=some (.cells bA 165 (0,0)):=by
    rw[O];have:=QS (a.alloc (.cells #[.string t,.string f,.int .i64 l,.int .i64 b] 229)) (.cells #[.int .i64 0,.string ⟨#[]⟩,.int .i64 0,.int .i64 0] 165);simpa [bA] using this
  have af:W.heap.size=a.heap.size+2:=by rw[O];simp
  have ai:=a8.lt h;have B:Hid (∀k,a.heap.size<=k->¬f9 H k):=fun k hk hm=>by have:=a8.inlt h hm;omega
  have hC:=h.Vb K;have HW:=hI O.symm;have u0:W.cell? ⟨a.heap.size,0,none⟩=some (.string t):=by rw[aa M];rfl
  have u1:W.cell? ⟨a.heap.size,1,none⟩=some (.string f):=by rw[aa M];rfl
  have u2:W.cell? ⟨a.heap.size,2,none⟩=some (.int .i64 l):=by rw[aa M];rfl
  have u3:W.cell? ⟨a.heap.size,3,none⟩=some (.int .i64 b):=by rw[aa M];rfl
  clear O;go_enter func184,ntmps184
  go_upto_region 1 with fail
  rw[HW.out];go_wp2
  go_loopg [6] t.size (fun gk i wr=>∃(j:Nat) (s:mg) (o:Nat->Hd) (U:Nat),j<=t.size/\gk=t.size-j/\i=.int .i64 j/\gu s (N+j)/\t.size-j+1<=U/\Hid (mT t ⟨f,l,b⟩ c=iQ t ⟨f,l,b⟩ U j s)/\dL wr w s o/\aA w a H wr o /\
    wr.heap[a.heap.size]?=some (.cells #[.string t,.string f,.int .i64 l,.int .i64 b] 229 (0,0))/\wr.heap[a.heap.size+1]?=some (.cells bA 165 (0,0))/\wr.heap[a.heap.size+2]?=some (.cells #[.string f,.int .i64 l,.int .i64 (b+j)] 36 (0,0))/\¬f9 o a.heap.size/\¬f9 o (a.heap.size+1)/\¬f9 o (a.heap.size+2))
  case atStart =>
    refine⟨0,c,H,t.size+1,by omega,by omega,rfl,ok,by omega,rfl,hC.Vb ((ab.refl [] _).alloc _),(aA.refl _ _ _).Vb (K.alloc _),((ab.refl [] _).alloc _).get M (by simp),((ab.refl [] _).alloc _).get BF (by simp),?_,B.out _ (by omega),B.out _ (by omega),B.out _ (by omega)⟩;rw[<-af];have:=QS W (.cells #[.string f,.int .i64 l,.int .i64 b] 36);simpa using this
  case round =>
    obtain⟨j,s,o,U,hj,hg,rfl,p,al,L,D,hT,B1,B2,Z,n1,n2,n3⟩:=hrel;clear u0 u1 u2 u3 M BF hC HW;have u0:wr.cell? ⟨a.heap.size,0,none⟩=some (.string t):=by rw[aa B1];rfl
    have v0:wr.cell? ⟨a.heap.size+2,0,none⟩=some (.string f):=by rw[aa Z];rfl
    have v1:wr.cell? ⟨a.heap.size+2,1,none⟩=some (.int .i64 l):=by rw[aa Z];rfl
    have v2:wr.cell? ⟨a.heap.size+2,2,none⟩=some (.int .i64 (b+j)):=by rw[aa Z];rfl
    obtain⟨q,rfl⟩:∃q,U=q+1:=⟨U-1,by omega⟩
    by_cases z:j<t.size
    · have P:(aF t j).toNat=t[j].toNat:=by rw[bP t j z];rfl
      have L1:=Qn t ⟨f,l,b⟩ q j s z;have L2:=Ok t ⟨f,l,b⟩ q j s z;have C:=p.letter t[j].toNat { (⟨f,l,b⟩:Pl) with col:=b+j };have Y:t[j].toNat<256:=UInt8.toNat_lt _;have TL:=fun(m:World) (h':dL m w s o)=>xp w s o t[j].toNat f l (b+j) m h' ⟨by have:=p.names;omega,by have:=p.Vj;omega,by have:=p.steps;omega,by have:=p.Vd;omega,p.behind⟩ Y
      rw[P]at L1 L2;simp only at L1 L2 C;have u:=hI L1;have A:=hI L2;have G:=hI TL;clear L1 L2 TL P;generalize cD s t[j].toNat ⟨f,l,b + ↑j⟩=Q at *;obtain⟨r,c2⟩:=Q;simp only at u A G C
      have E:Hid (∀(d:World) (n:Nat->Hd) (_:aA w wr.drew o d n),d.heap[a.heap.size]?=some (.cells #[.string t,.string f,.int .i64 l,.int .i64 b] 229 (0,0))/\d.heap[a.heap.size+1]?=some (.cells bA 165 (0,0))/\d.heap[a.heap.size+2]?=some (.cells #[.string f,.int .i64 l,.int .i64 (b+j)] 36 (0,0))):=by
        intro d n g;exact⟨g.1.get (by exact B1) (by rintro (e | e);omega;exact n1 e),g.1.get (by exact B2) (by rintro (e | e);omega;exact n2 e),g.1.get (by exact Z) (by rintro (e | e);omega;exact n3 e)⟩
      have X:Hid (∀(d:World) (n:Nat->Hd) (_:aA w wr.drew o d n),d.cell? ⟨a.heap.size,0,none⟩=some (.string t)/\d.cell? ⟨a.heap.size+2,0,none⟩=some (.string f)/\d.cell? ⟨a.heap.size+2,1,none⟩=some (.int .i64 l)/\d.cell? ⟨a.heap.size+2,2,none⟩=some (.int .i64 (b+j))):=by
        intro d n g;obtain⟨q1,S,I⟩:=E.out d n g;refine⟨by rw[aa q1];rfl,by rw[aa I];rfl,by rw[aa I];rfl,by rw[aa I];rfl⟩
      have ag:=ae B1;have R:=ae B2;have ac:=ae Z
      cases hr:(r==0)
      · have ad:(r != 0)=true:=by simp[bne,hr]
        have J:=hI (L.out.trans (A.out hr));clear L u A
        go_upto_region 5 with fail
        go_region_held3 (fun m=>m.cell? ⟨a.heap.size,0,none⟩=some (.string t)/\m.cell? ⟨a.heap.size+2,0,none⟩=some (.string f)/\m.cell? ⟨a.heap.size+2,1,none⟩=some (.int .i64 l)/\m.cell? ⟨a.heap.size+2,2,none⟩=some (.int .i64 (b+j))) (go_keep) (first | (go_at_call 217;refine(G.out _ (by exact D.Vb (ab.refl [] _).drew)).mono ?_;rintro e d ⟨rfl,n,D9,g⟩;obtain⟨x0,x1,x2,x3⟩:=X.out d n g))
        all_goals
          obtain⟨q1,S,I⟩:=E.out d n g;obtain⟨j0,j1,j2,j3⟩:=da S;have y:=am S;have m2:=g.fresh (a.heap.size+1) (by exact R) n2;have T:=hI (fun a0 a1 a2 a3=>vk D9 (hT.trans (aA.first (ab.refl [] _).drew g)) (F:=a.heap.size+1) (by omega) (by omega) m2 a0 a1 a2 a3);go_wp2
          exact QY (v:=.agg #[.int .i64 r,.string f,.int .i64 l,.int .i64 (b+j)]) (by simp[results,results184,go_sem,j0,j1,j2,j3]) rfl
            ⟨by rw[J.out];rfl,n,by rw[J.out];exact(T.out _ _ _ _).1,(T.out _ _ _ _).2⟩
      · have ad:(r != 0)=false:=by simp[bne,hr]
        have J:=hI (L.out.trans (u.out hr));clear L u A
        go_upto_region 5 with fail
        go_region_held3 (fun m=>m.cell? ⟨a.heap.size,0,none⟩=some (.string t)/\m.cell? ⟨a.heap.size+2,0,none⟩=some (.string f)/\m.cell? ⟨a.heap.size+2,1,none⟩=some (.int .i64 l)/\m.cell? ⟨a.heap.size+2,2,none⟩=some (.int .i64 (b+j))) (go_keep) (first | (go_at_call 217;refine(G.out _ (by exact D.Vb (ab.refl [] _).drew)).mono ?_;rintro e d ⟨rfl,n,D9,g⟩;obtain⟨x0,x1,x2,x3⟩:=X.out d n g))
        all_goals
          obtain⟨q1,S,I⟩:=E.out d n g;have y:=am I;have m1:=g.fresh a.heap.size (by exact ag) n1;have m2:=g.fresh (a.heap.size+1) (by exact R) n2;have m3:=g.fresh (a.heap.size+2) (by exact ac) n3;have V:=hT.trans (aA.first (ab.refl [] _).drew g);go_wp2
          go_roundg (t.size-(j+1))
          case measure=>omega
          case rel =>
            have kk:ab [a.heap.size+2] d (d.setCell ⟨a.heap.size+2,2,none⟩ (.int .i64 (b + ↑j+1))):=(ab.refl _ _).setCell (Q1 (by simp)) _;refine⟨j+1,c2,n,q,by omega,rfl,by go_num,by rw[<-U3];exact C,by omega,J.out,a8.kept D9 kk (by simp;omega) (by intro x hx;simp;rintro rfl;exact m3 hx),⟨V.1.setCell (QV (by simp)) _,V.2⟩,kk.get q1 (by simp),kk.get S (by simp),?_,m1,m2,m3⟩;rw[ah I,show b+(↑(j+1):Int)=b + ↑j+1 by omega];rfl
    · have J:=hI (L.out.trans (Pz t ⟨f,l,b⟩ q j s z))
      obtain⟨j0,j1,j2,j3⟩:=da B2;have y:=am B2;have T:=hI (fun a0 a1 a2 a3=>vk D hT (F:=a.heap.size+1) (by omega) (by omega) n2 a0 a1 a2 a3);clear L;go_wp2
      exact QY (v:=.agg #[.int .i64 0,.string ⟨#[]⟩,.int .i64 0,.int .i64 0]) (by simp[results,results184,go_sem,j0,j1,j2,j3]) rfl
        ⟨by rw[J.out];rfl,o,by rw[J.out];exact(T.out _ _ _ _).1,(T.out _ _ _ _).2⟩
def jG(l:List Nat)(x:Nat):Bool:=l.any (fun y=>y==x)
theorem BQ(h:w<x.length)(b:jG x y=jG (x.drop w) y)(a:(x[w]==y)=true):jG x y=true:=by
 rw[b,Rf h];simp only[jG,List.any_cons,a,Bool.true_or]
theorem yE(h:w<x.length)(b:jG x y=jG (x.drop w) y)(a:(x[w]==y)=false):jG x y=jG (x.drop (w+1)) y:=by
 rw[b,Rf h];simp only[jG,List.any_cons,a,Bool.false_or]
theorem yF(h:¬w<x.length)(a:jG x y=jG (x.drop w) y):jG x y=false:=by
 rw[a,R8 (by omega)];rfl
theorem oF:((y:Int)==(w:Int))=(y==w):=by
 cases h:(y==w)
 ·exact Rh.2 (by have:=Rh.1 h;omega)
 ·have:=TR h;subst this;simp
theorem CC(j:Hd)(l:List Nat)(x:Nat)(w:World)(d:aw w j (bB l))(q:l.length<=1073741824) :
  Calls prog 216 #[.slice j.ao l.length j.cap,.int .i64 x] w fun e s=>e=.returned (.bool (jG l x))/\s=w:=by
 obtain⟨A,t⟩:=j
 rcases d.Vm with ⟨u,p,_⟩ | ⟨g,r,o,_⟩
 ·have f:l.length=0:=p
  have m:l=[]:=Rk f;subst m;clear d p f q u;go_enter func216,ntmps216;go_wp2;refine SZ 1 ?_;rw[Tr];go_wp2;go_ret;exact⟨rfl,rfl⟩
 ·simp only at o
  subst o;go_enter func216,ntmps216;go_wp2
  go_loopg [5] l.length (fun g i wr=>∃k:Nat,k<=l.length/\g=l.length-k/\i=.int .i64 k/\Hid (jG l x=jG (l.drop k) x)/\wr=w)
  case atStart=>exact⟨0,by omega,by omega,rfl,rfl,rfl⟩
  case round =>
   obtain⟨k,y,z,rfl,c,rfl⟩:=hrel
   by_cases a:k<l.length
   ·have v:=d.cell rfl k (.int .i64 l[k]) (jP l k a)
    cases b:(l[k]==x)
    ·have h:Hid (jG l x=jG (l.drop (k+1)) x):=yE l x k a c.out b
     have n:=(oF l[k] x).trans b;clear c d b;go_wp2
     go_roundg (l.length-(k+1))
     case measure=>omega
     case rel=>exact⟨k+1,by omega,rfl,by go_num,h,rfl⟩
    ·have h:Hid (jG l x=true):=BQ l x k a c.out b
     have n:=(oF l[k] x).trans b;clear c d b;go_wp2;go_ret;exact⟨aD h.out.symm,rfl⟩
   ·have h:Hid (jG l x=false):=yF l x k a c.out
    clear c d;go_wp2;go_ret;exact⟨aD h.out.symm,rfl⟩
def dD(l:List St)(a:Nat)(fin:Pl):Nat->List (ByteArray×Pl)->List Nat->(Nat×pA)×List Nat
 | _,[],ns=>((0,(3,fin)),ns)
 | i,(t,p) :: r,ns =>
  if(t.toList == [41])=true then((i+1,cY),ns)
  else match my l t a with
   | none=>((0,(2,p)),ns)
   | some n=>if jG ns n=true then((0,(3,p)),ns) else dD l a fin (i+1) r (ns++[n])
theorem dF.far{P:Nat->Prop}{M:Nat}(h:dF H l I L v)(b:eK P H k)(c:∀x,P x->M<=x)(g:∀x,f9 v x->x<M)(j:l<M):dF k l I L v:=by
 obtain⟨a,t,d,f⟩:=h.cell;exact⟨⟨a,t,b.get d (fun e=>by have:=c _ e;omega),f⟩,h.Vn.keptP b (fun x i e=>by have:=c _ e;have:=g _ i;omega)⟩
theorem aw.word{l:List (ByteArray×Pl)}(b:aw H o (gN l))(k:Nat)(f:k<l.length) :
  ∃g,o.ao=some ⟨g,0,none⟩/\l.length<=o.cap/\o.cap<=9223372036854775807/\H.cell? ⟨g,k*4,none⟩=some (.string l[k].1)/\H.cell? ⟨g,k*4+1,none⟩=some (.string l[k].2.file)/\H.cell? ⟨g,k*4+2,none⟩=some (.int .i64 l[k].2.line)/\H.cell? ⟨g,k*4+3,none⟩=some (.int .i64 l[k].2.col):=by
 rcases b.Vm with ⟨_,h,_⟩ | ⟨g,i,a,p,n,d,-⟩
 ·have:l.length=0:=h
  omega
 ·have c:=fun j (m:j<4) v (e:(qZ l[k])[j]?=some v)=>b.cell a (k*4+j) v ((Ke l k f j m).trans e)
  exact⟨g,a,n,by unfold maxLen at d;exact d,c 0 (by omega) _ rfl,c 1 (by omega) _ rfl,c 2 (by omega) _ rfl,c 3 (by omega) _ rfl⟩
theorem gu.named{c:mg}(h:gu c l)(n:Nat):gu { c with names:=c.names++[n] } (l+1) :=
 ⟨by have:=h.names;simp;omega,by have:=h.Vj;simp only;omega,by have:=h.steps;simp only;omega,by have:=h.Vd;simp only;omega,h.behind⟩
theorem Hb(c:S<f.length) :
  dD a i n S (f.drop S) x=if(f[S].1.toList == [41])=true then((S+1,cY),x)
   else match my a f[S].1 i with
    | none=>((0,(2,f[S].2)),x)
    | some b=>if jG x b=true then((0,(3,f[S].2)),x) else dD a i n (S+1) (f.drop (S+1)) (x++[b]):=by
 rw[Rf c];rfl
theorem DL(b:¬S<f.length):dD a i n S (f.drop S) x=((0,(3,n)),x):=by
 rw[R8 (by omega)];rfl
theorem xS(c:mg)(R:Nat->Hd)(Z T a:Nat)(l:List St)(H:Nat->Hd)(w0 o:World)(h:dL o w c R)(af:dF w0 Z T l H)(an:ab [] w0 o)(ha:a<l.length)(ok:iH l)(bv:c.names.length<=10000)(hb:w0.heap.size<=w)(hc:∀x,f9 R x->w0.heap.size<=x) :
  Calls prog 183 #[.pointer (some ⟨w,0,none⟩),.pointer (some ⟨Z,T,none⟩),.int .i64 a] o fun e w' =>
   e=.returned (.tuple #[.int .i64 (dD l a l[a].fin 1 (l[a].Vh.drop 1) c.names).1.1,gU (dD l a l[a].fin 1 (l[a].Vh.drop 1) c.names).1.2])/\∃ar,dL w' w { c with names:=(dD l a l[a].fin 1 (l[a].Vh.drop 1) c.names).2 } ar/\aA w o R w' ar:=by
 obtain⟨i0,ba,a4,a5,aT⟩:=Re yH;have bk:=a8.lt h;have hr:=af.Vb an;have bd:=ok.len;have bl:=ok.prfs a ha;have ag:Hid (∀k,o.heap.size<=k->¬f9 R k):=fun k hk hm=>by have:=a8.inlt h hm;omega
 obtain⟨U,ax⟩:∃U,Hid ((H (11+2*a)).ao=U):=⟨_,rfl⟩
 obtain⟨W,hW⟩:∃W,W=o.alloc (.cells #[.int .i64 0,.string ⟨#[]⟩,.int .i64 0,.int .i64 0] 165):=⟨_,rfl⟩
 have K:ab [] o W:=by rw[hW];exact(ab.refl [] _).alloc _
 have BF:W.heap[o.heap.size]?=some (.cells bA 165 (0,0)):=by rw[hW];exact QS _ _
 have HW:=hI hW.symm;clear hW;go_enter func183,ntmps183
 go_upto_region 1 with fail
 rw[HW.out];go_wp2_with fail;refine(a9 Z T a l H _ (hr.Vb K) ha).mono ?_;rintro e y ⟨rfl,E⟩;unfold ee;rw[ax.out];obtain⟨W2,z⟩:∃W2,W2=y.alloc (.cells #[.int .i64 l[a].kind,.string l[a].label,.slice (H (10+2*a)).ao l[a].U6.length (H (10+2*a)).cap,.slice U l[a].Vh.length (H (11+2*a)).cap,.string l[a].fin.file,.int .i64 l[a].fin.line,.int .i64 l[a].fin.col,.int .i64 l[a].til] 158):=⟨_,rfl⟩
 have al:=hI z.symm;have K2:ab [] o W2:=by rw[z];exact(K.trans E).alloc _
 have BT:W2.heap[y.heap.size]?=some (.cells #[.int .i64 l[a].kind,.string l[a].label,.slice (H (10+2*a)).ao l[a].U6.length (H (10+2*a)).cap,.slice U l[a].Vh.length (H (11+2*a)).cap,.string l[a].fin.file,.int .i64 l[a].fin.line,.int .i64 l[a].fin.col,.int .i64 l[a].til] 158 (0,0)):=by rw[z];exact QS _ _
 have ap:W2.heap[o.heap.size]?=some (.cells bA 165 (0,0)):=by rw[z];exact((ab.refl [] _).alloc _).get (E.get BF (by simp)) (by simp)
 have bw:o.heap.size<y.heap.size:=by have:=ae (E.get BF (by simp));omega
 clear z
 go_upto_region 2 with fail
 rw[al.out];clear HW al E BF K;obtain⟨TB,Y⟩:∃TB:Array Value,TB=#[.int .i64 l[a].kind,.string l[a].label,.slice (H (10+2*a)).ao l[a].U6.length (H (10+2*a)).cap,.slice U l[a].Vh.length (H (11+2*a)).cap,.string l[a].fin.file,.int .i64 l[a].fin.line,.int .i64 l[a].fin.col,.int .i64 l[a].til]:=⟨_,rfl⟩
 rw[<-Y]at BT;have B:=hI Y;clear Y;go_wp2
 go_loopg [9] (l[a].Vh.length-1) (fun gk iv wr=>∃(i:Nat) (b:List Nat) (p:Nat->Hd),1<=i/\i<=10001/\gk=l[a].Vh.length-i/\iv=.int .i64 i/\b.length<=10000+i/\Hid (dD l a l[a].fin 1 (l[a].Vh.drop 1) c.names=dD l a l[a].fin i (l[a].Vh.drop i) b)/\dL wr w { c with names:=b } p/\aA w o R wr p /\
  wr.heap[o.heap.size]?=some (.cells bA 165 (0,0))/\wr.heap[y.heap.size]?=some (.cells TB 158 (0,0))/\¬f9 p o.heap.size/\¬f9 p y.heap.size)
 case atStart=>exact⟨1,c.names,R,by omega,by omega,rfl,rfl,by omega,rfl,h.Vb K2,(aA.refl _ _ _).Vb K2,ap,BT,ag.out _ (by omega),ag.out _ (by omega)⟩
 case round =>
  obtain⟨i,b,p,bp,bj,hg,rfl,bo,hR,hC,hT,B1,P,n1,n2⟩:=hrel;clear BT ap K2
  have hP:∀x,(x=w∨f9 R x)->w0.heap.size<=x:=by
   rintro x (e | e)
   ·omega
   ·exact hc x e
  have ac:dF wr Z T l H:=af.Vb (an.ofP hT.1 hP);have ad:=ac.Vn.prfs a l[a] (QP ha);have bf:=ae B1;have bg:=ae P;obtain⟨X,J,L,z3⟩:=da B1;have yz:=am B1
  by_cases V:i<l[a].Vh.length
  ·obtain⟨gp,ep,be,a6,d0,d1,d2,d3⟩:=ad.word i V
   obtain rfl:U=some ⟨gp,0,none⟩:=ax.out.symm.trans ep;have bc:=hI ep;have t3:wr.cell? ⟨y.heap.size,3,none⟩=some (.slice (some ⟨gp,0,none⟩) l[a].Vh.length (H (11+2*a)).cap):=by rw[aa P,B.out];rfl
   clear ep;have BL:=Hb l a l[a].fin i l[a].Vh b V;have g:=hI (hR.out.trans BL);clear BL hR ad;generalize hwd:l[a].Vh[i]=wd at *;obtain⟨t,pf,S,pc⟩:=wd;simp only at d0 d1 d2 d3 g;obtain⟨r,D⟩:∃r,r=wr.alloc (.cells #[.string t,.string pf,.int .i64 S,.int .i64 pc] 229):=⟨_,rfl⟩
   have N:ab [] wr r:=by rw[D];exact(ab.refl [] _).alloc _
   have B5:r.heap[wr.heap.size]?=some (.cells #[.string t,.string pf,.int .i64 S,.int .i64 pc] 229 (0,0)):=by rw[D];exact QS _ _
   have ai:=hI D.symm;have bs:gp<wr.heap.size:=(ac.Vn.prfs a l[a] (QP ha)).lt (by unfold Hd.blk;rw[bc.out];rfl);clear D
   go_upto_region 6 with fail
   rw[ai.out];clear ai d0 d1 d2 d3 t3 X J L z3 yz;have v0:r.cell? ⟨wr.heap.size,0,none⟩=some (.string t):=by rw[aa B5];rfl
   have v1:r.cell? ⟨wr.heap.size,1,none⟩=some (.string pf):=by rw[aa B5];rfl
   have v2:r.cell? ⟨wr.heap.size,2,none⟩=some (.int .i64 S):=by rw[aa B5];rfl
   have v3:r.cell? ⟨wr.heap.size,3,none⟩=some (.int .i64 pc):=by rw[aa B5];rfl
   have C5:=hC.Vb N;have T5:=hT.Vb N;have R5:=ac.Vb N;have F5:=N.get B1 (by simp);have S5:=N.get P (by simp);obtain⟨X,J,L,z3⟩:=da F5;have yz:=am F5;have C:=hI (fun a0 a1 a2 a3=>vk C5 T5 (F:=o.heap.size) (QR _) (by omega) n1 a0 a1 a2 a3)
   cases ht:(t.toList == [41])
   ·rcases hf:my l t a with _ | n
    ·have s:Hid (dD l a l[a].fin 1 (l[a].Vh.drop 1) c.names=((0,(2,⟨pf,S,pc⟩)),b)):=by show _=_;rw[g.out,ht,hf];simp
     clear g
     go_upto_region 10 with (go_at_call 185;refine(iq Z T a t l H _ (by exact R5) (by omega)).mono ?_;rintro e w6 ⟨rfl,A⟩;rw[A,hf];simp only[nB])
     go_region
     all_goals go_wp2
     all_goals exact QY (v:=.tuple #[.int .i64 0,.agg #[.int .i64 2,.string pf,.int .i64 S,.int .i64 pc]]) (by simp[results,results183,go_sem,X,J,L,z3]) rfl ⟨by rw[s.out];rfl,p,by rw[s.out];exact(dL.Vb (C.out _ _ _ _).1 (ab.refl [] _).drew),aA.Vb (C.out _ _ _ _).2 (ab.refl [] _).drew⟩
    ·obtain⟨k0,k1,k2,k3,k4⟩:=C5.cells
     simp only at k0;clear k1 k2 k3 k4;have Q:aw r (p 0) (bB b):=a8.own C5 0
     cases hh:jG b n
     ·have s:Hid (dD l a l[a].fin 1 (l[a].Vh.drop 1) c.names=dD l a l[a].fin (i+1) (l[a].Vh.drop (i+1)) (b++[n])):=by show _=_;rw[g.out,ht,hf];simp[hh]
      have O:=C5.Vb ((ab.refl [] r).alloc (.cells #[.int .i64 n] 3));have aS:=a8.free C5;have br:=a8.lt C5
      have a7:Hid (∀j,j≠0->wW { c with names:=b++[n] } j=wW { c with names:=b } j):=by
       intro j G
       match j,G with
       | 0,G=>exact absurd rfl G
       | 1,_=>rfl
       | 2,_=>rfl
       | m+3,_=>rfl
      clear g C X J L z3 yz
      go_upto_region 13 with (first | (go_at_call 185;refine(iq Z T a t l H _ (by exact R5) (by omega)).mono ?_;rintro e w6 ⟨rfl,A⟩;rw[A,hf];simp only[nB]) | (go_at_call 216;refine(CC (p 0) b n _ (by exact Q) (by omega)).mono ?_;rintro e w7 ⟨rfl,M⟩;rw[M]))
      go_wp2_with (at_builtin;refine aM _ rfl (.tmp 56) (.tmp 58) 26 rfl i0 (.int .i64 0) 8 (p 0) (bB b) underlying26 ba a4 a5 aT rfl Rc rfl (by exact a8.own O 0) ⟨_,0,none⟩ 1 1 [.int .i64 n] rfl rfl ?e1 ?e2 Rc ?e3 ?e4 ?_)
      case e1=>intro j u G;match j,G with | 0,G=>simp at G;subst G;simp[Addr.add]
      case e2=>intro u hu;simp at hu;subst hu;rfl
      case e3=>simp only[bB];unfold maxLen;omega
      case e4=>simp only[bB];omega
      intro g8 f w8 az I q;obtain⟨k5,f5,HP⟩:=a8.app O (cs':=lF { c with names:=b++[n] } (g9 p 0 ⟨some ⟨g8,0,none⟩,f⟩)) (rows':=wW { c with names:=b++[n] }) 0 0 g8 f ((bB b).n+1) _ az (mv b n) I (by simpa using q) a7.out (.slice (p 0).ao b.length (p 0).cap) rfl (by simp[lF,g9,bB]);have T8:=(show Hid _ from(T5.Vb ((ab.refl [] r).alloc (.cells #[.int .i64 n] 3))).trans HP.out.2);have F8:Hid ((w8.setCell ⟨w,0,none⟩ (.slice (some ⟨g8,0,none⟩) ((bB b).n+1) f)).heap[o.heap.size]?=some (.cells bA 165 (0,0))):=HP.out.2.1.get (((ab.refl [] r).alloc _).get F5 (by simp)) (by rintro (e | e);omega;exact n1 e);have S8:Hid ((w8.setCell ⟨w,0,none⟩ (.slice (some ⟨g8,0,none⟩) ((bB b).n+1) f)).heap[y.heap.size]?=some (.cells TB 158 (0,0))):=HP.out.2.1.get (((ab.refl [] r).alloc _).get S5 (by simp)) (by rintro (e | e);omega;exact n2 e);have m1:Hid (¬f9 (g9 p 0 ⟨some ⟨g8,0,none⟩,f⟩) o.heap.size):=aA.fresh HP.out.2 _ (by have:=N.size;simp;omega) n1;have m2:Hid (¬f9 (g9 p 0 ⟨some ⟨g8,0,none⟩,f⟩) y.heap.size):=aA.fresh HP.out.2 _ (by have:=N.size;simp;omega) n2;clear az I q k0 aS Q O v0 v1 v2 v3;go_wp2
      go_roundg (l[a].Vh.length-(i+1))
      case measure=>omega
      case rel=>exact⟨i+1,b++[n],_,by omega,by omega,rfl,by go_num,by simp;omega,s.out,HP.out.1,T8.out,F8.out,S8.out,m1.out,m2.out⟩
     ·have s:Hid (dD l a l[a].fin 1 (l[a].Vh.drop 1) c.names=((0,(3,⟨pf,S,pc⟩)),b)):=by show _=_;rw[g.out,ht,hf];simp[hh]
      clear g
      go_upto_region 12 with (first | (go_at_call 185;refine(iq Z T a t l H _ (by exact R5) (by omega)).mono ?_;rintro e w6 ⟨rfl,A⟩;rw[A,hf];simp only[nB]) | (go_at_call 216;refine(CC (p 0) b n _ (by exact Q) (by omega)).mono ?_;rintro e w7 ⟨rfl,M⟩;rw[M]))
      go_region
      all_goals go_wp2
      all_goals exact QY (v:=.tuple #[.int .i64 0,.agg #[.int .i64 3,.string pf,.int .i64 S,.int .i64 pc]]) (by simp[results,results183,go_sem,X,J,L,z3]) rfl ⟨by rw[s.out];rfl,p,by rw[s.out];exact(dL.Vb (C.out _ _ _ _).1 (ab.refl [] _).drew),aA.Vb (C.out _ _ _ _).2 (ab.refl [] _).drew⟩
   ·have s:Hid (dD l a l[a].fin 1 (l[a].Vh.drop 1) c.names=((i+1,cY),b)):=by show _=_;rw[g.out,ht];simp
    clear g;go_wp2
    exact QY (v:=.tuple #[.int .i64 (i+1),.agg #[.int .i64 0,.string ⟨#[]⟩,.int .i64 0,.int .i64 0]]) (by simp[results,results183,go_sem,X,J,L,z3]) rfl
     ⟨by rw[s.out];rfl,p,by rw[s.out];exact(C.out _ _ _ _).1,(C.out _ _ _ _).2⟩
  ·have s:Hid (dD l a l[a].fin 1 (l[a].Vh.drop 1) c.names=((0,(3,l[a].fin)),b)):=hR.out.trans (DL l a l[a].fin i l[a].Vh b V)
   have t3:wr.cell? ⟨y.heap.size,3,none⟩=some (.slice U l[a].Vh.length (H (11+2*a)).cap):=by rw[aa P,B.out];rfl
   have t4:wr.cell? ⟨y.heap.size,4,none⟩=some (.string l[a].fin.file):=by rw[aa P,B.out];rfl
   have t5:wr.cell? ⟨y.heap.size,5,none⟩=some (.int .i64 l[a].fin.line):=by rw[aa P,B.out];rfl
   have t6:wr.cell? ⟨y.heap.size,6,none⟩=some (.int .i64 l[a].fin.col):=by rw[aa P,B.out];rfl
   have C:=hI (fun a0 a1 a2 a3=>vk hC hT (F:=o.heap.size) (QR _) (by omega) n1 a0 a1 a2 a3);clear hR ad
   go_upto_region 14 with fail
   go_region
   all_goals go_wp2
   all_goals exact QY (v:=.tuple #[.int .i64 0,.agg #[.int .i64 3,.string l[a].fin.file,.int .i64 l[a].fin.line,.int .i64 l[a].fin.col]]) (by simp[results,results183,go_sem,X,J,L,z3]) rfl ⟨by rw[s.out];rfl,p,by rw[s.out];exact(dL.Vb (C.out _ _ _ _).1 (ab.refl [] _).drew),aA.Vb (C.out _ _ _ _).2 (ab.refl [] _).drew⟩
def fL(l:List St)(a:Nat)(fin:Pl):List (ByteArray×Pl)->List nF->List nF×pA
 | [],acc=>if acc.length=0 then([],(1,fin)) else(acc,cY)
 | (t,p) :: r,acc =>
  if(t.toList == [63])=true then fL l a fin r (acc++[⟨1,0,p⟩])
  else match my l t a with
   | none=>([],(2,p))
   | some n=>fL l a fin r (acc++[⟨2,n,p⟩])
theorem LM(b:List nF)(d:S<f.length) :
  fL a i n (f.drop S) b=if(f[S].1.toList == [63])=true then fL a i n (f.drop (S+1)) (b++[⟨1,0,f[S].2⟩])
   else match my a f[S].1 i with
    | none=>([],(2,f[S].2))
    | some c=>fL a i n (f.drop (S+1)) (b++[⟨2,c,f[S].2⟩]):=by
 rw[Rf d];rfl
theorem IZ(b:List nF)(c:¬S<f.length):fL a i n (f.drop S) b=if b.length=0 then([],(1,n)) else(b,cY):=by
 rw[R8 (by omega)];rfl
theorem kH{F:Nat}(K:ab [] H k)(a:H.heap.size<=F)(b d e c:Value):ab [] H ((((k.setCell ⟨F,0,none⟩ b).setCell ⟨F,1,none⟩ d).setCell ⟨F,2,none⟩ e).setCell ⟨F,3,none⟩ c) :=
 (((K.setCell (QV a) _).setCell (QV a) _).setCell (QV a) _).setCell (QV a) _
theorem Qd(K:ab [] H k)(a:H.heap.size<=l)(b d e c f:Value):ab [] H (((((k.setCell ⟨l,0,none⟩ b).setCell ⟨l,1,none⟩ d).setCell ⟨l,2,none⟩ e).setCell ⟨l,3,none⟩ c).setCell ⟨l,4,none⟩ f) :=
 ((((K.setCell (QV a) _).setCell (QV a) _).setCell (QV a) _).setCell (QV a) _).setCell (QV a) _
theorem pS(l:List St)(H:Nat->Hd)(B:World)(hr:dF B S y l H)(ha:w<l.length)(ok:iH l) :
  Calls prog 139 #[.pointer (some ⟨S,y,none⟩),.int .i64 w] B fun e w'=>∃k:Hd,
   e=.returned (.tuple #[.slice k.ao (fL l w l[w].fin l[w].Vh []).1.length k.cap,gU (fL l w l[w].fin l[w].Vh []).2])/\aw w' k (go (fL l w l[w].fin l[w].Vh []).1)/\(∀x,k.blk=some x->B.heap.size<=x)/\ab [] B w':=by
 obtain⟨i0,ar,ai,J,ag⟩:=Re OB;have a7:=hr.lt;have a3:=ok.len;have ba:=ok.prfs w ha;obtain⟨AO,an⟩:∃AO,Hid ((H (11+2*w)).ao=AO):=⟨_,rfl⟩
 obtain⟨W,hW⟩:∃W,W=B.alloc (.cells #[.int .i64 0,.string ⟨#[]⟩,.int .i64 0,.int .i64 0] 165):=⟨_,rfl⟩
 have K:ab [] B W:=by rw[hW];exact(ab.refl [] _).alloc _
 have BF:W.heap[B.heap.size]?=some (.cells bA 165 (0,0)):=by rw[hW];exact QS _ _
 have HW:=hI hW.symm;clear hW;go_enter func139,ntmps139
 go_upto_region 1 with fail
 rw[HW.out];go_wp2_with fail;refine(a9 S y w l H _ (hr.Vb K) ha).mono ?_;rintro e P ⟨rfl,L⟩;unfold ee;rw[an.out];obtain⟨q,z⟩:∃q,q=P.alloc (.cells #[.int .i64 l[w].kind,.string l[w].label,.slice (H (10+2*w)).ao l[w].U6.length (H (10+2*w)).cap,.slice AO l[w].Vh.length (H (11+2*w)).cap,.string l[w].fin.file,.int .i64 l[w].fin.line,.int .i64 l[w].fin.col,.int .i64 l[w].til] 158):=⟨_,rfl⟩
 have af:=hI z.symm;have K2:ab [] B q:=by rw[z];exact(K.trans L).alloc _
 obtain⟨TB,ac⟩:∃TB:Array Value,TB=#[.int .i64 l[w].kind,.string l[w].label,.slice (H (10+2*w)).ao l[w].U6.length (H (10+2*w)).cap,.slice AO l[w].Vh.length (H (11+2*w)).cap,.string l[w].fin.file,.int .i64 l[w].fin.line,.int .i64 l[w].fin.col,.int .i64 l[w].til]:=⟨_,rfl⟩
 have BT:q.heap[P.heap.size]?=some (.cells TB 158 (0,0)):=by rw[z,ac];exact QS _ _
 have aS:q.heap[B.heap.size]?=some (.cells bA 165 (0,0)):=by rw[z];exact((ab.refl [] _).alloc _).get (L.get BF (by simp)) (by simp)
 have bg:B.heap.size<P.heap.size:=by have:=ae (L.get BF (by simp));omega
 have bf:=ae BT;have G:=hI ac;clear z ac
 go_upto_region 2 with fail
 rw[af.out];clear HW af L BF K;go_wp2
 go_loopg [7,8] l[w].Vh.length (fun gk sv iv wr=>∃(i:Nat) (a:List nF) (k:Hd),i<=l[w].Vh.length/\gk=l[w].Vh.length-i/\iv=.int .i64 i/\sv=.slice k.ao a.length k.cap/\a.length<=i/\Hid (fL l w l[w].fin l[w].Vh []=fL l w l[w].fin (l[w].Vh.drop i) a)/\aw wr k (go a)/\(∀x,k.blk=some x->q.heap.size<=x) /\
  ab [] q wr)
 case atStart=>exact⟨0,[],⟨none,0⟩,by omega,by omega,rfl,rfl,by simp,rfl,QZ _ _ _ _,by intro x g;simp[Hd.blk]at g,ab.refl _ _⟩
 case round =>
  obtain⟨i,a,k,hi,hg,rfl,rfl,bd,hR,hO,hN,hK⟩:=hrel;have KW:=K2.trans hK;have ax:=hr.Vb KW;have B1:=hK.get aS (by simp);have B2:=hK.get BT (by simp);have a5:=ae B1;have a6:=ae B2;obtain⟨z0,R,T,z3⟩:=da B1;have yz:=am B1;have M:=ax.Vn.prfs w l[w] (QP ha);have a0:=K2.size
  by_cases Z:i<l[w].Vh.length
  ·obtain⟨gp,ep,a4,a1,d0,d1,d2,d3⟩:=M.word i Z
   obtain rfl:AO=some ⟨gp,0,none⟩:=an.out.symm.trans ep;have t3:wr.cell? ⟨P.heap.size,3,none⟩=some (.slice (some ⟨gp,0,none⟩) l[w].Vh.length (H (11+2*w)).cap):=by rw[aa B2,G.out];rfl
   have bc:gp<wr.heap.size:=M.lt (by unfold Hd.blk;rw[ep];rfl);clear ep;have BL:=LM l w l[w].fin i l[w].Vh a Z;have p:=hI (hR.out.trans BL);clear BL hR M;generalize hwd:l[w].Vh[i]=wd at *;obtain⟨t,d,c,f⟩:=wd;simp only at d0 d1 d2 d3 p;obtain⟨h,D⟩:∃h,h=(wr.alloc (.cells #[.string t,.string d,.int .i64 c,.int .i64 f] 229)).alloc (.cells #[.int .i64 1,.int .i64 0,.string d,.int .i64 c,.int .i64 f] 174):=⟨_,rfl⟩
   have K5:ab [] wr h:=by rw[D];exact((ab.refl [] _).alloc _).alloc _
   have B5:h.heap[wr.heap.size]?=some (.cells #[.string t,.string d,.int .i64 c,.int .i64 f] 229 (0,0)):=by rw[D];exact((ab.refl [] _).alloc _).get (QS _ _) (by simp)
   have Q:h.heap[wr.heap.size+1]?=some (.cells #[.int .i64 1,.int .i64 0,.string d,.int .i64 c,.int .i64 f] 174 (0,0)):=by
    rw[D];have:=QS (wr.alloc (.cells #[.string t,.string d,.int .i64 c,.int .i64 f] 229)) (.cells #[.int .i64 1,.int .i64 0,.string d,.int .i64 c,.int .i64 f] 174);simpa using this
   have ad:=hI D.symm;clear D
   go_upto_region 8 with fail
   rw[ad.out];clear ad d0 d1 d2 d3 t3 z0 R T z3 yz;have v0:h.cell? ⟨wr.heap.size,0,none⟩=some (.string t):=by rw[aa B5];rfl
   have v1:h.cell? ⟨wr.heap.size,1,none⟩=some (.string d):=by rw[aa B5];rfl
   have v2:h.cell? ⟨wr.heap.size,2,none⟩=some (.int .i64 c):=by rw[aa B5];rfl
   have v3:h.cell? ⟨wr.heap.size,3,none⟩=some (.int .i64 f):=by rw[aa B5];rfl
   have u0:h.cell? ⟨wr.heap.size+1,0,none⟩=some (.int .i64 1):=by rw[aa Q];rfl
   have u1:h.cell? ⟨wr.heap.size+1,1,none⟩=some (.int .i64 0):=by rw[aa Q];rfl
   have u2:h.cell? ⟨wr.heap.size+1,2,none⟩=some (.string d):=by rw[aa Q];rfl
   have u3:h.cell? ⟨wr.heap.size+1,3,none⟩=some (.int .i64 c):=by rw[aa Q];rfl
   have u4:h.cell? ⟨wr.heap.size+1,4,none⟩=some (.int .i64 f):=by rw[aa Q];rfl
   have yu:=am Q;have N:aw h k (go a):=hO.Vg (fun x g=>K5.block x (hO.lt g) (by simp));have R5:=ax.Vb K5;have F5:=K5.get B1 (by simp);obtain⟨z0,R,T,z3⟩:=da F5;have yz:=am F5;have Y:Hid (ab [] q h):=hK.trans K5;have be:=ae Q
   cases ht:(t.toList == [63])
   ·have az:(t.toList != [63])=true:=by simp[bne,ht]
    rcases hf:my l t w with _ | n
    ·have I:Hid (fL l w l[w].fin l[w].Vh []=([],(2,⟨d,c,f⟩))):=by show _=_;rw[p.out,ht,hf];simp
     clear p
     go_upto_region 11 with (go_at_call 185;refine(iq S y w t l H _ (by exact R5) (by omega)).mono ?_;rintro e w6 ⟨rfl,X⟩;rw[X,hf];simp only[nB])
     go_region
     all_goals go_wp2
     all_goals exact QY (v:=.tuple #[.slice none 0 0,.agg #[.int .i64 2,.string d,.int .i64 c,.int .i64 f]]) (by simp[results,results139,go_sem,z0,R,T,z3]) rfl ⟨⟨none,0⟩,by rw[I.out];rfl,by rw[I.out];exact QZ _ _ _ _,by intro x g;simp[Hd.blk]at g,(kH (K2.trans Y.out) (QR _) _ _ _ _).drew⟩
    ·have I:Hid (fL l w l[w].fin l[w].Vh []=fL l w l[w].fin (l[w].Vh.drop (i+1)) (a++[⟨2,n,⟨d,c,f⟩⟩])):=by show _=_;rw[p.out,ht,hf];simp
     clear p;obtain⟨o,E⟩:∃o,o=((((h.setCell ⟨wr.heap.size+1,0,none⟩ (.int .i64 2)).setCell ⟨wr.heap.size+1,1,none⟩ (.int .i64 n)).setCell ⟨wr.heap.size+1,2,none⟩ (.string d)).setCell ⟨wr.heap.size+1,3,none⟩ (.int .i64 c)).setCell ⟨wr.heap.size+1,4,none⟩ (.int .i64 f):=⟨_,rfl⟩
     have ap:ab [wr.heap.size+1] h o:=by rw[E];exact((((((ab.refl _ _).setCell (Q1 (by simp)) _).setCell (Q1 (by simp)) _).setCell (Q1 (by simp)) _).setCell (Q1 (by simp)) _).setCell (Q1 (by simp)) _)
     have S6:o.heap[wr.heap.size+1]?=some (.cells #[.int .i64 2,.int .i64 n,.string d,.int .i64 c,.int .i64 f] 174 (0,0)):=by
      rw[E,ah (ah (ah (ah (ah Q _ _) _ _) _ _) _ _)];rfl
     have a2:Hid (ab [] q o):=by
      show ab [] q o
      rw[E];exact Qd Y.out (by have:=hK.size;omega) _ _ _ _ _
     have O:aw o k (go a):=N.Vg (fun x g=>ap.block x (N.lt g) (by simp;rintro rfl;have:=hO.lt g;omega));have al:=hI E.symm;clear E ap
     go_upto_region 13 with (go_at_call 185;refine(iq S y w t l H _ (by exact R5) (by omega)).mono ?_;rintro e w6 ⟨rfl,X⟩;rw[X,hf];simp only[nB])
     rw[al.out];clear al u0 u1 u2 u3 u4 yu;have u0:o.cell? ⟨wr.heap.size+1,0,none⟩=some (.int .i64 2):=by rw[aa S6];rfl
     have u1:o.cell? ⟨wr.heap.size+1,1,none⟩=some (.int .i64 n):=by rw[aa S6];rfl
     have u2:o.cell? ⟨wr.heap.size+1,2,none⟩=some (.string d):=by rw[aa S6];rfl
     have u3:o.cell? ⟨wr.heap.size+1,3,none⟩=some (.int .i64 c):=by rw[aa S6];rfl
     have u4:o.cell? ⟨wr.heap.size+1,4,none⟩=some (.int .i64 f):=by rw[aa S6];rfl
     have s:=O.Vg (fun x g=>((ab.refl [] o).alloc (.cells #[.int .i64 2,.int .i64 n,.string d,.int .i64 c,.int .i64 f] 174)).block x (O.lt g) (by simp));have K6:Hid (ab [] q (o.alloc (.cells #[.int .i64 2,.int .i64 n,.string d,.int .i64 c,.int .i64 f] 174))):=ab.alloc a2.out _;clear z0 R T z3 yz v0 v1 v2 v3;go_wp2_with (at_builtin;refine aM _ rfl (.tmp 47) (.tmp 49) 163 rfl i0 (.agg #[.int .i64 0,.int .i64 0,.string ⟨#[]⟩,.int .i64 0,.int .i64 0]) 48 k (go a) underlying163 ar ai J ag rfl (Uz 4) rfl (by exact s) ⟨_,0,none⟩ 1 1 (lh ⟨2,n,⟨d,c,f⟩⟩) rfl rfl ?e1 (un _) Rc ?e3 ?e4 ?_)
     case e1 =>
      intro j u hj;have hk:(o.alloc (.cells #[.int .i64 2,.int .i64 n,.string d,.int .i64 c,.int .i64 f] 174)).heap[o.heap.size]?=some (.cells #[.int .i64 2,.int .i64 n,.string d,.int .i64 c,.int .i64 f] 174 (0,0)):=QS _ _;rw[bL,aa hk];simpa [lh] using hj
     case e3=>simp only[go];unfold maxLen;omega
     case e4=>simp only[go];omega
     intro g8 A w8 F m b;rw[uh a ⟨2,n,⟨d,c,f⟩⟩]at F;have U:=(K6.out).grown m hN
     have aT:q.heap.size<=g8:=by
      rcases b with e | e
      ·exact hN g8 e
      ·have:=K6.out.size;simp at e this;omega
     have V:Hid ((go a).n+1=(a++[(⟨2,n,⟨d,c,f⟩⟩:nF)]).length):=by show _=_;simp[go]
     rw[V.out];clear m b s;go_wp2
     go_roundg (l[w].Vh.length-(i+1))
     case measure=>omega
     case rel=>exact⟨i+1,a++[⟨2,n,⟨d,c,f⟩⟩],⟨some ⟨g8,0,none⟩,A⟩,by omega,rfl,by go_num,rfl,by simp;omega,I,F,by intro x g;simp[Hd.blk]at g;omega,U⟩
   ·have az:(t.toList != [63])=false:=by simp[bne,ht]
    have I:Hid (fL l w l[w].fin l[w].Vh []=fL l w l[w].fin (l[w].Vh.drop (i+1)) (a++[⟨1,0,⟨d,c,f⟩⟩])):=by show _=_;rw[p.out,ht];simp
    clear p;have s:=N.Vg (fun x g=>((ab.refl [] h).alloc (.cells #[.int .i64 1,.int .i64 0,.string d,.int .i64 c,.int .i64 f] 174)).block x (N.lt g) (by simp));have K6:Hid (ab [] q (h.alloc (.cells #[.int .i64 1,.int .i64 0,.string d,.int .i64 c,.int .i64 f] 174))):=ab.alloc Y.out _;clear z0 R T z3 yz
    go_upto_region 13 with fail
    clear v0 v1 v2 v3;go_wp2_with (at_builtin;refine aM _ rfl (.tmp 47) (.tmp 49) 163 rfl i0 (.agg #[.int .i64 0,.int .i64 0,.string ⟨#[]⟩,.int .i64 0,.int .i64 0]) 48 k (go a) underlying163 ar ai J ag rfl (Uz 4) rfl (by exact s) ⟨_,0,none⟩ 1 1 (lh ⟨1,0,⟨d,c,f⟩⟩) rfl rfl ?e1 (un _) Rc ?e3 ?e4 ?_)
    case e1 =>
     intro j u hj;have hk:(h.alloc (.cells #[.int .i64 1,.int .i64 0,.string d,.int .i64 c,.int .i64 f] 174)).heap[h.heap.size]?=some (.cells #[.int .i64 1,.int .i64 0,.string d,.int .i64 c,.int .i64 f] 174 (0,0)):=QS _ _;rw[bL,aa hk];simpa [lh] using hj
    case e3=>simp only[go];unfold maxLen;omega
    case e4=>simp only[go];omega
    intro g8 A w8 F m b;rw[uh a ⟨1,0,⟨d,c,f⟩⟩]at F;have U:=(K6.out).grown m hN
    have aT:q.heap.size<=g8:=by
     rcases b with e | e
     ·exact hN g8 e
     ·have:=K6.out.size;simp at e this;omega
    have V:Hid ((go a).n+1=(a++[(⟨1,0,⟨d,c,f⟩⟩:nF)]).length):=by show _=_;simp[go]
    rw[V.out];clear m b s;go_wp2
    go_roundg (l[w].Vh.length-(i+1))
    case measure=>omega
    case rel=>exact⟨i+1,a++[⟨1,0,⟨d,c,f⟩⟩],⟨some ⟨g8,0,none⟩,A⟩,by omega,rfl,by go_num,rfl,by simp;omega,I,F,by intro x g;simp[Hd.blk]at g;omega,U⟩
  ·have I:Hid (fL l w l[w].fin l[w].Vh []=if a.length=0 then([],(1,l[w].fin)) else(a,cY)):=hR.out.trans (IZ l w l[w].fin i l[w].Vh a Z)
   have t3:wr.cell? ⟨P.heap.size,3,none⟩=some (.slice AO l[w].Vh.length (H (11+2*w)).cap):=by rw[aa B2,G.out];rfl
   have t4:wr.cell? ⟨P.heap.size,4,none⟩=some (.string l[w].fin.file):=by rw[aa B2,G.out];rfl
   have t5:wr.cell? ⟨P.heap.size,5,none⟩=some (.int .i64 l[w].fin.line):=by rw[aa B2,G.out];rfl
   have t6:wr.cell? ⟨P.heap.size,6,none⟩=some (.int .i64 l[w].fin.col):=by rw[aa B2,G.out];rfl
   clear hR M
   by_cases hz:a.length=0
   ·have J:((a.length:Int)==0)=true:=by simp[hz]
    have C:Hid (fL l w l[w].fin l[w].Vh []=([],(1,l[w].fin))):=by show _=_;rw[I.out,QW hz]
    clear I hz
    go_upto_region 15 with fail
    go_region
    all_goals go_wp2
    all_goals exact QY (v:=.tuple #[.slice none 0 0,.agg #[.int .i64 1,.string l[w].fin.file,.int .i64 l[w].fin.line,.int .i64 l[w].fin.col]]) (by simp[results,results139,go_sem,z0,R,T,z3]) rfl ⟨⟨none,0⟩,by rw[C.out];rfl,by rw[C.out];exact QZ _ _ _ _,by intro x g;simp[Hd.blk]at g,(kH KW (QR _) _ _ _ _).drew⟩
   ·have J:((a.length:Int)==0)=false:=Rh.2 (by omega)
    have C:Hid (fL l w l[w].fin l[w].Vh []=(a,cY)):=by show _=_;rw[I.out,QT hz]
    clear I hz;go_wp2
    exact QY (v:=.tuple #[.slice k.ao a.length k.cap,.agg #[.int .i64 0,.string ⟨#[]⟩,.int .i64 0,.int .i64 0]]) (by simp[results,results139,go_sem,z0,R,T,z3]) rfl
     ⟨k,by rw[C.out];rfl,by rw[C.out];exact hO.Vg (fun x g=>(ji (r:=B.heap.size) _ _ _ _).block x (hO.lt g) (by simp;rintro rfl;have:=hN _ g;omega)),fun x g=>Q3 a0 (hN x g),kH KW (QR _) _ _ _ _⟩
def tD:List (ByteArray×Pl)->mg->pA×mg
 | [],c=>(cY,c)
 | (t,p) :: r,c=>if((mT t p c).1.1==0)=true then tD r (mT t p c).2 else mT t p c
def Gz(f:pA)(ws:List (ByteArray×Pl))(c:mg):pA×mg:=if(f.1==0)=true then tD ws c else(f,c)
theorem Pm(c:mg)(i:Nat)(a:i<f.length)(h:(D.1==0)=true):Gz D (f.drop i) c=Gz (mT f[i].1 f[i].2 c).1 (f.drop (i+1)) (mT f[i].1 f[i].2 c).2:=by
 unfold Gz;rw[QW h,Rf a];rfl
theorem NQ(c:mg)(i:Nat)(a:¬i<f.length)(h:(D.1==0)=true):Gz D (f.drop i) c=(cY,c):=by
 unfold Gz;rw[QW h,R8 (by omega)];rfl
theorem GA(c:mg)(h:(D.1==0)=false):Gz D f c=(D,c):=by
 unfold Gz;rw[QT (by rw[h];simp)]
theorem yj(d:List (ByteArray×Pl))(b:Nat)(c:List Nat):(dD a i n b d c).1.1<=b+d.length/\(dD a i n b d c).2.length<=c.length+d.length:=by
 induction d generalizing b c with
 | nil=>simp[dD]
 | cons x r f =>
  obtain⟨t,p⟩:=x;rw[dD]
  split
  ·simp
  ·split
   ·simp
   ·split
    ·simp
    ·next e _ _=>have:=f (b+1) (c++[e]);simp at this ⊢;omega
theorem gu.mono{c:mg}{M:Nat}(h:gu c l)(k:l<=M):gu c M:=⟨Q3 h.names k,Q3 h.Vj k,Q3 h.steps k,by have:=h.Vd;omega,h.behind⟩
theorem FI(f:Nat):∀(j:Nat) (c:mg) (N:Nat),gu c (N+j)->j<=d.size->gu (iQ d n f j c).2 (N+d.size):=by
 induction f with
 | zero=>intro j c N h i;exact h.mono (by omega)
 | succ f e =>
  intro j c N h i;rw[iQ]
  split
  ·next g =>
   have a:=h.letter (aF d j).toNat { n with col:=n.col+j }
   split
   ·exact e (j+1) _ N (by rw[<-U3];exact a) (by omega)
   ·exact a.mono (by omega)
  ·exact h.mono (by omega)
theorem zr{c:mg}(h:gu c l):gu (mT d n c).2 (l+d.size):=FI d n _ 0 c l h (Ro _)
def kt(ws:List (ByteArray×Pl)):Nat:=(ws.map (fun x=>x.1.size)).sum
theorem Fd(a:w<f.length):kt (f.drop w)=f[w].1.size+kt (f.drop (w+1)):=by
 have e:=Rf a;simp only[kt];rw[e];rfl
theorem C2(a:List (ByteArray×Pl))(i:Nat):kt (a.drop i)<=kt a:=by
 induction i generalizing a with
 | zero=>simp
 | succ i b =>
  cases a with
  | nil=>simp
  | cons x r=>have:=b r;simp[kt]at this ⊢;omega
structure yc(s:St):Prop where
 size:kt s.Vh<=1000000
 col:∀x∈s.Vh,-1000000000<=x.2.col/\x.2.col<=1000000000
def Gb(l:List St)(a:Nat)(s:St):pA×mg :=
 Gz (dD l a s.fin 1 (s.Vh.drop 1) (aK l a)).1.2 (s.Vh.drop (dD l a s.fin 1 (s.Vh.drop 1) (aK l a)).1.1) ⟨(dD l a s.fin 1 (s.Vh.drop 1) (aK l a)).2,[],[],0,false⟩
def uF(fin:Pl)(R:pA×mg):List nF×pA :=
 if(R.1.1==0)=true then
  (if R.2.Vd=0 then(if R.2.steps.length=0 then([],(1,fin)) else(R.2.steps,cY)) else([],(4,fin)))
 else([],R.1)
def lK(l:List St)(a:Nat)(s:St):List nF×pA:=uF s.fin (Gb l a s)
def xL(hd:Hd):Nat->Hd
 | 0=>hd
 | _+1=>⟨none,0⟩
theorem Nf{cs:List Value}{rows:Nat->dN}(b:aw H o (rows 0))(n:∀i,aw (H.alloc (.cells cs.toArray l)) ⟨none,0⟩ (rows (i+1))):a8 (H.alloc (.cells cs.toArray l)) H.heap.size l cs rows (xL o):=by
 refine⟨QS _ _,?_,?_,?_⟩
 ·intro i
  cases i with
  | zero=>exact b.Vg (fun x d=>((ab.refl [] H).alloc _).block x (b.lt d) (by simp))
  | succ i=>exact n i
 ·intro i j a
  cases i with
  | zero =>
   cases j with
   | zero=>exact absurd rfl a
   | succ j =>
    have c:(xL o (j+1)).blk=none:=rfl;rw[c,show xL o 0=o from rfl]
    cases h:o.blk with
    | none=>exact Q1 rfl
    | some x=>right;simp
  | succ i=>left;rfl
 ·intro i
  cases i with
  | zero=>intro e;have:=b.lt e;omega
  | succ i=>intro e;simp[xL,Hd.blk]at e
theorem NP(h:f9 (xL o) l):o.blk=some l:=by
 obtain⟨i,a⟩:=h
 cases i with
 | zero=>exact a
 | succ i=>simp[xL,Hd.blk]at a
def x9(p:Pl):Prop:=(-1000000000<=p.col/\p.col<=1000000000)/\Ko p
structure Gd(d:Db)(m:Nat):Prop where
 bnd:nE d m
 now:kt d.Vh<=m/\∀x∈d.Vh,x9 x.2
 Vn:∀s∈d.Vn,0<s.U6.length/\s.U6.length<=m/\s.Vh.length<=m/\kt s.Vh<=m/\(∀x∈s.Vh,x9 x.2)/\x9 s.fin
theorem Fe(x:ByteArray×Pl):kt (f++[x])=kt f+x.1.size:=by
 simp[kt]
theorem EC{s:St}(h:s∈gy L l):∃s'∈L,s.U6=s'.U6/\s.Vh=s'.Vh/\s.fin=s'.fin:=by
 unfold gy fD at h;rw[List.mem_mapIdx]at h;obtain⟨i,a,rfl⟩:=h;refine⟨L[i],Rb a,?_⟩
 split
 ·unfold lM;split <;> exact⟨rfl,rfl,rfl⟩
 ·exact⟨rfl,rfl,rfl⟩
theorem Gd.take{d:Db}(h:Gd d l)(x:ByteArray)(p:Pl)(n:Nat)(B:x.size<=n)(A:1<=n)(o:x9 p):Gd (aX d x p).2 (l+n):=by
 have u:=(h.bnd.take x p).mono (m':=l+n) (by omega);have z:=h.bnd.Vh;have q:=h.bnd.U8;refine⟨u,?_,?_⟩
 ·rcases Ft d x p with e | e | e
  ·rw[e];exact⟨by have:=h.now.1;omega,h.now.2⟩
  ·rw[e];exact⟨by simp[kt],by simp⟩
  ·rw[e]
   refine⟨by rw[Fe];have:=h.now.1;simp only;omega,fun y c=>?_⟩
   rcases Rr.1 c with c | c
   ·exact h.now.2 y c
   ·rw[Q9.1 c];exact o
 ·rcases Dd d x p with e | ⟨y,_,e⟩ | ⟨e,g⟩
  ·rw[e]
   intro s a;obtain⟨f,m,j,k,b⟩:=h.Vn s a;exact⟨f,by omega,by omega,by omega,b⟩
  ·rw[e]
   intro s a;obtain⟨v,i,w,t,r⟩:=EC a;obtain⟨f,m,j,k,b⟩:=h.Vn v i;rw[w,t,r];exact⟨f,by omega,by omega,by omega,b⟩
  ·rw[e]
   intro s a
   rcases Rr.1 a with a | a
   ·obtain⟨f,m,j,k,b⟩:=h.Vn s a
    exact⟨f,by omega,by omega,by omega,b⟩
   ·rw[Q9.1 a]
    exact⟨g,by simp only;omega,by simp only;omega,by have:=h.now.1;simp only;omega,h.now.2,o⟩
theorem Gd.empty:Gd fm 0:=⟨nE.empty,by simp[fm,kt],by simp[fm]⟩
theorem xd(c:w<=T.size):(bC T w).1.text.size<=(bC T w).2-w/\(bC T w).1.pos<=T.size:=by
 have a:=AB T w c;have b:=rQ T (skip T w) a.2;unfold bC;simp only
 split
 ·exact⟨by simp[ByteArray.size],b.2⟩
 ·split
  ·exact⟨by simp[ByteArray.size],by simp only;omega⟩
  ·refine⟨?_,by simp only;omega⟩
   simp only[ByteArray.size_extract];omega
theorem vQ(k:Nat)(a:k<=T.size):(aW T k).1.pos<=T.size:=by
 unfold aW;generalize T.size-k+1=f
 induction f generalizing k with
 | zero=>simp[bX,a]
 | succ f c =>
  have b:=(xd T k a).2;have d:=gq T k a;rw[bX]
  split
  ·split
   ·exact b
   ·exact c (bC T k).2 d.2.1
  ·split
   ·exact b
   ·exact b
theorem EI(k:Nat)(a:k<=T.size):(aI (ay T k).1=true->(ay T k).1.text.size<=(ay T k).2-k)/\(ay T k).1.pos<=T.size:=by
 unfold ay;generalize T.size-k+1=f
 induction f generalizing k with
 | zero=>exact⟨fun h=>by simp[dH,aI]at h,by simp[dH,a]⟩
 | succ f e =>
  have c:=xd T k a;have b:=gq T k a;rw[dH]
  split
  ·have i:=i9 T (bC T k).2 b.2.1
   have g:=vQ T (bC T k).2 b.2.1
   split
   ·have:=e _ i.2
    exact⟨fun h=>by have:=this.1 h;omega,this.2⟩
   ·next d=>exact⟨fun h=>absurd h d,g⟩
  ·exact⟨fun _=>c.1,c.2⟩
theorem KZ(c:w<=1024):x9 (kK d T w):=by
 have a:=zL T w;have b:=Ai T w;unfold x9 Ko kK;simp only;omega
def MZ(fs:Fs)(bg:List Bool)(m:Nat)(r:FP):Prop :=
 r.2.1.length=4/\dP fs r.2.1<=dP fs bg/\∃m',Gd r.2.2 m'/\m'+dP fs r.2.1<=m+dP fs bg
theorem If(a:∀j,j<b.length->(ak b j).size<=1024)(x:Nat):(ak b x).size<=1024:=by
 rcases UR x b.length with h | h
 ·exact a x h
 ·have:(ak b x).size=0:=by unfold ak;rw[QQ,Rx h];rfl
  omega
theorem JS(h:∀j,j<b.length->(ak b j).size<=1024)(f:Nat)(r:∀j a d m,a.length=4->Gd d m->MZ b a m (cn b f j a d))(x k:Nat)(a:List Bool)(d:Db)(m:Nat)(p:k<=(ak b x).size)(g:a.length=4)(n:Gd d m)(q:aI (ay (ak b x) k).1=true) :
  MZ b a (m+((ay (ak b x) k).2-k)) (fZ b f x k a d).1/\(ay (ak b x) k).2<=(fZ b f x k a d).2/\(fZ b f x k a d).2<=(ak b x).size:=by
 have e:=fG (ak b x) k p;have v:=e.2.2 q;have y:=EI (ak b x) k p;have o:=If b h x;unfold fZ jN
 split
 ·unfold mX
  split
  ·exact⟨⟨g,QR _,m,n,by simp only;omega⟩,QR _,e.2.1⟩
  ·next j A c =>
   have i:=r j a d m g n;refine⟨⟨i.1,i.2.1,?_⟩,?_⟩
   ·obtain⟨s,u,z⟩:=i.2.2;exact⟨s,u,by simp only;omega⟩
   ·unfold rx at c
    have w:=fG (ak b x) (ay (ak b x) k).2 e.2.1;have B:=fG (ak b x) (ay (ak b x) (ay (ak b x) k).2).2 w.2.1
    repeat' split at c
    all_goals first | (cases c;done) | skip
    injection c with c
    injection c with t l
    subst l;omega
 ·refine⟨⟨g,QR _,m+((ay (ak b x) k).2-k),n.take _ _ _ (y.1 q) (by omega) (KZ _ _ _ (by omega)),by simp only;omega⟩,QR _,e.2.1⟩
theorem Nu(o:∀j,j<b.length->(ak b j).size<=1024)(f:Nat):(∀x k a d m,k<=(ak b x).size->a.length=4->Gd d m->(bq b f x k a d).2.1.length=4/\dP b (bq b f x k a d).2.1<=dP b a/\∃e,Gd (bq b f x k a d).2.2 e/\e+dP b (bq b f x k a d).2.1<=m+((ak b x).size-k)+dP b a) /\
  (∀j a d m,a.length=4->Gd d m->MZ b a m (cn b f j a d)):=by
 have c:∀f,(∀x k a d m,k<=(ak b x).size->a.length=4->Gd d m->(bq b f x k a d).2.1.length=4/\dP b (bq b f x k a d).2.1<=dP b a/\∃e,Gd (bq b f x k a d).2.2 e/\e+dP b (bq b f x k a d).2.1<=m+((ak b x).size-k)+dP b a) ->
   (∀j a d m,a.length=4->Gd d m->MZ b a m (cn b f j a d)):=by
  intro f h j a d m g i;unfold cn
  split
  ·exact⟨g,QR _,m,i,QR _⟩
  ·next D =>
   have q:a.getD j true=false:=by simpa using D
   have H:=wG b a j g q;have:=h j 0 (a.set j true) d m (Ro _) (by simpa using g) i;refine⟨this.1,by omega,?_⟩;obtain⟨e,E,G⟩:=this.2.2;exact⟨e,E,by omega⟩
 induction f with
 | zero =>
  have w:∀x k a d m,k<=(ak b x).size->a.length=4->Gd d m->(bq b 0 x k a d).2.1.length=4/\dP b (bq b 0 x k a d).2.1<=dP b a/\∃e,Gd (bq b 0 x k a d).2.2 e/\e+dP b (bq b 0 x k a d).2.1<=m+((ak b x).size-k)+dP b a:=by
   intro x k a d m p g i;exact⟨g,QR _,m,i,by simp only[bq];omega⟩
  exact⟨w,c 0 w⟩
 | succ f v =>
  have s:∀x k a d m,k<=(ak b x).size->a.length=4->Gd d m->(bq b (f+1) x k a d).2.1.length=4/\dP b (bq b (f+1) x k a d).2.1<=dP b a/\∃e,Gd (bq b (f+1) x k a d).2.2 e/\e+dP b (bq b (f+1) x k a d).2.1<=m+((ak b x).size-k)+dP b a:=by
   intro x k a d m p g i
   cases n:aI (ay (ak b x) k).1 with
   | true =>
    have J:=fG (ak b x) k p;have y:=JS b o f v.2 x k a d m p g i n;obtain⟨⟨t,C,r,u,K⟩,L,z⟩:=y
    cases l:((fZ b f x k a d).1.1.1==0) with
    | true =>
     rw[yD b f x k a d n l];obtain⟨A,M,F,B,I⟩:=v.1 x (fZ b f x k a d).2 (fZ b f x k a d).1.2.1 (fZ b f x k a d).1.2.2 r z t u;exact⟨A,by omega,F,B,by omega⟩
    | false =>
     rw[ox b f x k a d n l];exact⟨t,C,r,u,by omega⟩
   | false =>
    by_cases l:(ay (ak b x) k).1.fin=true/\kp d=false
    ·rw[zW b f x k a d n l.1 l.2];exact⟨g,QR _,m,i,by simp only;omega⟩
    ·rw[wk b f x k a d n l];exact⟨g,QR _,m,i,by simp only;omega⟩
  exact⟨s,c (f+1) s⟩
def PQ(l:List St):Prop:=∀s∈l,Ko s.fin/\∀x∈s.Vh,Ko x.2
structure Qs(l:List St):Prop where
 ok:iH l
 prf:∀i (hi:i<l.length),yc l[i]
 lns:PQ l
theorem wT(d:∀j,j<b.length->(ak b j).size<=1024)(k:Nat):Qs (bK b k).2.2.Vn:=by
 obtain⟨_,_,m,c,n⟩:=(Nu b d 5000).2 k F3 fm 0 rfl Gd.empty;have l:=Al b d F3;have g:m<=4104:=by omega
 have h:=c.bnd.Vn;unfold bK;refine⟨⟨by omega,fun i a=>?_,fun i a=>?_,fun i a=>?_⟩,fun i a=>⟨?_,?_⟩,?_⟩
 ·exact(c.Vn _ (Rb a)).1
 ·have:=(c.Vn _ (Rb a)).2.1;omega
 ·have:=(c.Vn _ (Rb a)).2.2.1;omega
 ·have:=(c.Vn _ (Rb a)).2.2.2.1;omega
 ·exact fun x e=>((c.Vn _ (Rb a)).2.2.2.2.1 x e).1
 ·exact fun s f=>⟨(c.Vn s f).2.2.2.2.2.2,fun x e=>((c.Vn s f).2.2.2.2.1 x e).2⟩
end Go.Proofs.YtpddjjabfbfifaaGreat
