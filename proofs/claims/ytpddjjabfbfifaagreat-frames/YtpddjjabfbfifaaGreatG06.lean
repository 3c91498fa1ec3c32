import Derived.BigQuiet
import Derived.Deep.RegionHeld3
import Derived.Test.YtpddjjabfbfifaaGreatG05
namespace Go.Proofs.YtpddjjabfbfifaaGreat
open Go.RowKit Tryz
set_option maxRecDepth 100000
set_option maxHeartbeats 40000000
variable{f a:World}{l M:Nat}{y:Nat->Hd}{I:List St}{D:Hd}(i:List St)(o:Nat)(v:ByteArray)(n:Pl)(x:Nat)(L:pv)(H:List (ByteArray×Pl))(k:List Nat)(T:Nat)(d:List Nat)(S:ByteArray)(w:Nat)(b:Fs)
structure nE where
 kind:Int
 U6:Nat
 at_:Pl
def lg(s:nE):List Value:=[.int .i64 s.kind,.int .i64 s.U6,.string s.at_.file,.int .i64 s.at_.line,.int .i64 s.at_.col]
def xh(l:List nE):List Value:=l.flatMap lg
def go(l:List nE):dN:=⟨174,5,l.length,xh l⟩
theorem ug(l:List nE)(s:nE):(⟨(go l).e,(go l).size,(go l).n+1,(go l).xs++lg s⟩:dN)=go (l++[s]):=by simp[go,xh]
theorem um(s:nE):∀u∈lg s,u.oneCell'=true:=by
 intro u a;simp only[lg,Ri,RN,SO]at a
 rcases a with rfl | rfl | rfl | rfl | rfl <;> rfl
theorem Oz:(prog.info? 174).map (fun i=>(i.zero,i.size,i.bytes))=some (some (.agg #[.int .i64 0,.int .i64 0,.string ⟨#[]⟩,.int .i64 0,.int .i64 0]),5,48):=by kernel_rfl
structure me where
 names:List Nat
 tagged:List Nat
 steps:List nE
 Vc:Nat
 behind:Bool
def wV(c:me):Nat->dN
 | 0=>bB c.names
 | 1=>bB c.tagged
 | 2=>go c.steps
 | _+3=>bB []
def lE(c:me)(H:Nat->Hd):List Value :=
 [.slice (H 0).ao c.names.length (H 0).cap,.slice (H 1).ao c.tagged.length (H 1).cap,.slice (H 2).ao c.steps.length (H 2).cap,.int .i64 c.Vc,.bool c.behind]
def dL(w:World)(b:Nat)(c:me)(H:Nat->Hd):Prop:=a8 w b 279 (lE c H) (wV c) H
theorem dL.cells{c:me}(h:dL f l c y) :
  f.cell? ⟨l,0,none⟩=some (.slice (y 0).ao c.names.length (y 0).cap)/\f.cell? ⟨l,1,none⟩=some (.slice (y 1).ao c.tagged.length (y 1).cap)/\f.cell? ⟨l,2,none⟩=some (.slice (y 2).ao c.steps.length (y 2).cap) /\
  f.cell? ⟨l,3,none⟩=some (.int .i64 c.Vc)/\f.cell? ⟨l,4,none⟩=some (.bool c.behind) :=
 ⟨a8.cell h 0,a8.cell h 1,a8.cell h 2,a8.cell h 3,a8.cell h 4⟩
structure gu(c:me)(N:Nat):Prop where
 names:c.names.length<=N
 tagged:c.tagged.length<=N
 steps:c.steps.length<=N
 Vc:c.Vc<=10*N+5
 behind:c.behind=true->0<c.steps.length
def eC(c:me)(s:nE):me:={ c with steps:=c.steps++[s],behind:=false }
theorem pC(c:me)(H:Nat->Hd)(k:Int)(n:Nat)(f:ByteArray)(l a:Int)(i:World)(h:dL i w c H)(ok:gu c 10000000) :
  Calls prog 244 #[.pointer (some ⟨w,0,none⟩),.agg #[.int .i64 k,.int .i64 n,.string f,.int .i64 l,.int .i64 a]] i fun e I=>e=.returned (.tuple #[])/\∃C,dL I w (eC c ⟨k,n,⟨f,l,a⟩⟩) C/\aA w i H I C/\∀j,j≠2->C j=H j:=by
 obtain⟨P,R,x,z,D⟩:=Rd Oz;have ac:=ok.steps;obtain⟨W,s⟩:∃W,W=i.alloc (.cells #[.int .i64 k,.int .i64 n,.string f,.int .i64 l,.int .i64 a] 174):=⟨_,rfl⟩
 have K:ab [] i W:=by rw[s];exact(ab.refl [] _).alloc _
 have v:dL W w c H:=a8.Va h K;have B:W.heap[i.heap.size]?=some (.cells #[.int .i64 k,.int .i64 n,.string f,.int .i64 l,.int .i64 a] 174 (0,0)):=by rw[s];exact QR _ _
 have L:W.cell? ⟨i.heap.size,0,none⟩=some (.int .i64 k):=by rw[aa B];rfl
 have Y:W.cell? ⟨i.heap.size,1,none⟩=some (.int .i64 n):=by rw[aa B];rfl
 have S:W.cell? ⟨i.heap.size,2,none⟩=some (.string f):=by rw[aa B];rfl
 have U:W.cell? ⟨i.heap.size,3,none⟩=some (.int .i64 l):=by rw[aa B];rfl
 have y4:W.cell? ⟨i.heap.size,4,none⟩=some (.int .i64 a):=by rw[aa B];rfl
 obtain⟨c0,c1,c2,c3,O⟩:=v.cells;clear c0 c1 c3;have A:=a8.free v;have Q:=a8.lt v;have V:=ae B;have G:Hid (dL (W.alloc (.cells #[.int .i64 k,.int .i64 n,.string f,.int .i64 l,.int .i64 a] 174)).drew w c H):=a8.Va v ((ab.refl [] W).alloc _).drew
 have N:Hid (∀j u,(lg ⟨k,n,⟨f,l,a⟩⟩)[j]?=some u->(W.alloc (.cells #[.int .i64 k,.int .i64 n,.string f,.int .i64 l,.int .i64 a] 174)).drew.cell? ((⟨W.heap.size,0,none⟩:Addr).add j)=some u):=by
  intro j u p;have M:(W.alloc (.cells #[.int .i64 k,.int .i64 n,.string f,.int .i64 l,.int .i64 a] 174)).drew.heap[W.heap.size]?=some (.cells #[.int .i64 k,.int .i64 n,.string f,.int .i64 l,.int .i64 a] 174 (0,0)):=QR _ _;rw[bL,aa M];simpa [lg] using p
 have T:Hid ((go c.steps).n+1<=maxLen):=by show _<=_;simp only[go];unfold maxLen;omega
 have X:Hid (((go c.steps).n+1)*48<=140737488355328):=by show _<=_;simp only[go];omega
 have J:=hI s.symm
 have E:Hid (∀j,j≠2->wV { c with steps:=c.steps++[⟨k,n,⟨f,l,a⟩⟩] } j=wV c j):=by
  intro j p
  match j,p with
  | 0,_=>rfl
  | 1,_=>rfl
  | 2,p=>exact absurd rfl p
  | m+3,_=>rfl
 clear s B h;go_enter func244,ntmps244
 go_upto_region 1 with fail
 rw[J.out]
 go_region_law (refine cd rfl (.tmp 8) (.tmp 10) 163 rfl P (.agg #[.int .i64 0,.int .i64 0,.string ⟨#[]⟩,.int .i64 0,.int .i64 0]) 48 (H 2) (go c.steps) underlying163 R x z D rfl (Uy 4) (by simp[Act.eval] <;> rfl) (a8.own G.out 2) ⟨W.heap.size,0,none⟩ 1 1 (lg ⟨k,n,⟨f,l,a⟩⟩) (by simp[Act.eval]) rfl N.out (um _) Rb T.out X.out ?_;intro g o w1 q r b;obtain⟨Z,f5,t⟩:=a8.app G.out (cs':=lE { c with steps:=c.steps++[⟨k,n,⟨f,l,a⟩⟩] } (g9 H 2 ⟨some ⟨g,0,none⟩,o⟩)) (rows':=wV { c with steps:=c.steps++[⟨k,n,⟨f,l,a⟩⟩] }) 2 2 g o ((go c.steps).n+1) _ q (ug c.steps ⟨k,n,⟨f,l,a⟩⟩) r (by simpa using b) E.out (.slice (H 2).ao c.steps.length (H 2).cap) rfl (by simp[lE,g9,go]);clear q r b)
 all_goals
  have F:=hI (a8.set t.out.1 4 (.bool false));have y:=(a8.cell t.out.1 4);have ad:=a8.free t.out.1;simp only[lE,SD,Td]at y;clear c2 O A L Y S U y4 Z f5;go_wp2;go_end0;exact⟨rfl,_,F.out.1,((t.out.2.first ((ab.refl [] _).alloc _).drew).first K).trans F.out.2,fun j p=>bU _ _ _ _ p⟩
def mM(c:me)(d:Nat):me:=if c.Vc<=c.names.length+c.tagged.length then { c with behind:=false,Vc:=c.Vc*5+d } else { c with behind:=false }
theorem dL.digs{c:me}(h:dL f l c y)(n:Nat):Hid (dL (f.setCell ⟨l,3,none⟩ (.int .i64 n)) l { c with Vc:=n } y/\aA l f y (f.setCell ⟨l,3,none⟩ (.int .i64 n)) y):=a8.set h 3 (.int .i64 n)
theorem dL.beh{c:me}(h:dL f l c y)(x:Bool):Hid (dL (f.setCell ⟨l,4,none⟩ (.bool x)) l { c with behind:=x } y/\aA l f y (f.setCell ⟨l,4,none⟩ (.bool x)) y):=a8.set h 4 (.bool x)
theorem dL.Va{c:me}(h:dL f l c y)(k:ab [] f a):dL a l c y:=a8.Va h k
theorem xR(c:me)(H:Nat->Hd)(d:Nat)(p:World)(h:dL p w c H)(s:gu c 10000000)(y:d<=5) :
  Calls prog 243 #[.pointer (some ⟨w,0,none⟩),.int .i64 d] p fun e t=>e=.returned (.tuple #[])/\dL t w (mM c d) H/\aA w p H t H:=by
 have x:=s.names;have z:=s.tagged;have A:=s.Vc;obtain⟨j,l,m,k,i⟩:=h.cells;have f:=a8.free h;have b:=h.beh false;obtain⟨v,g⟩:∃v,v=p.setCell ⟨w,4,none⟩ (.bool false):=⟨_,rfl⟩
 have o:=hI g.symm;rw[<-g]at b;clear g
 by_cases n:c.Vc<=c.names.length+c.tagged.length
 ·have q:Hid (mM c d={ c with behind:=false,Vc:=c.Vc*5+d }):=QV n
  go_enter func243,ntmps243
  go_upto_region 1 with fail
  rw[o.out];clear j l m k i f o;obtain⟨j,l,m,k,i⟩:=b.out.1.cells;simp only at j l k;clear m i;have f:=a8.free b.out.1;have u:(c.Vc:Int)<=(c.names.length:Int)+(c.tagged.length:Int):=by omega
  go_quiet (fail)
  have r:=b.out.1.digs (c.Vc*5+d);rw[show((c.Vc*5+d:Nat):Int)=(c.Vc:Int)*5+(d:Int) by omega]at r;go_wp2;go_end0;exact⟨rfl,by rw[q.out];exact r.out.1.Va ((ab.refl [] _).drewN nq),aA.trans b.out.2 (aA.Va r.out.2 ((ab.refl [] _).drewN nq))⟩
 ·have q:Hid (mM c d={ c with behind:=false }):=QS n
  go_enter func243,ntmps243
  go_upto_region 1 with fail
  rw[o.out];clear j l m k i f o;obtain⟨j,l,m,k,i⟩:=b.out.1.cells;simp only at j l k;clear m i
  go_quiet (fail)
  go_wp2;go_end0;exact⟨rfl,by rw[q.out];exact b.out.1.Va ((ab.refl [] _).drewN nq),aA.Va b.out.2 ((ab.refl [] _).drewN nq)⟩
def kE(c:me)(u:Nat)(p:Pl):Int×me :=
 if c.Vc*20+u-1<c.names.length then(0,{ eC { c with Vc:=0 } ⟨2,c.names.getD (c.Vc*20+u-1) 0,p⟩ with behind:=true })
 else if c.Vc*20+u-1-c.names.length<c.tagged.length then(0,{ eC { c with Vc:=0 } ⟨3,c.tagged.getD (c.Vc*20+u-1-c.names.length) 0,p⟩ with behind:=true })
 else(5,{ c with Vc:=0 })
theorem P0(h:w<d.length):d.getD w 0=d[w]:=by rw[QP,QO h];rfl
theorem KO(w:World)(f:ByteArray)(l c:Int) :
  ∃W,Hid (w.alloc (.cells #[.string f,.int .i64 l,.int .i64 c] 36)=W)/\ab [] w W/\W.heap[w.heap.size]?=some (.cells #[.string f,.int .i64 l,.int .i64 c] 36 (0,0))/\W.cell? ⟨w.heap.size,0,none⟩=some (.string f)/\W.cell? ⟨w.heap.size,1,none⟩=some (.int .i64 l)/\W.cell? ⟨w.heap.size,2,none⟩=some (.int .i64 c):=by
 have B:(w.alloc (.cells #[.string f,.int .i64 l,.int .i64 c] 36)).heap[w.heap.size]?=some (.cells #[.string f,.int .i64 l,.int .i64 c] 36 (0,0)):=QR _ _;refine⟨_,rfl,(ab.refl [] _).alloc _,B,?_,?_,?_⟩ <;> rw[aa B] <;> rfl
theorem vW(c:me)(H:Nat->Hd)(u:Nat)(f:ByteArray)(l d:Int)(i:World)(h:dL i w c H)(G:gu c 10000000)(hu:1<=u)(ai:u<=20) :
  Calls prog 242 #[.pointer (some ⟨w,0,none⟩),.int .i64 u,.agg #[.string f,.int .i64 l,.int .i64 d]] i fun e w'=>e=.returned (.int .i64 (kE c u ⟨f,l,d⟩).1)/\∃H',dL w' w (kE c u ⟨f,l,d⟩).2 H'/\aA w i H w' H':=by
 have h1:=G.names;have h2:=G.tagged;have h3:=G.Vc;obtain⟨W,HW,K,B,p0,p1,p2⟩:=KO i f l d;have V:=h.Va K;have U:i.heap.size≠w:=by have:=a8.lt h;omega
 have ag:Hid (∀k,f9 H k->k≠i.heap.size):=fun k hk=>by have:=a8.inlt h hk;omega
 obtain⟨y,A,c2,c3,c4⟩:=V.cells;have O:=a8.free V;have r:Hid (dL (W.setCell ⟨w,3,none⟩ (.int .i64 0)) w { c with Vc:=0 } H/\aA w W H (W.setCell ⟨w,3,none⟩ (.int .i64 0)) H):=V.digs 0;obtain⟨o,m⟩:∃o,o=W.setCell ⟨w,3,none⟩ (.int .i64 0):=⟨_,rfl⟩
 have F:=hI m.symm;rw[<-m]at r;have Z:o.heap[i.heap.size]?=some (.cells #[.string f,.int .i64 l,.int .i64 d] 36 (0,0)):=by rw[m];exact(Q3 _ _ _ _ U).trans B
 have r0:o.cell? ⟨i.heap.size,0,none⟩=some (.string f):=by rw[aa Z];rfl
 have r1:o.cell? ⟨i.heap.size,1,none⟩=some (.int .i64 l):=by rw[aa Z];rfl
 have r2:o.cell? ⟨i.heap.size,2,none⟩=some (.int .i64 d):=by rw[aa Z];rfl
 clear m h;have C:gu { c with Vc:=0 } 10000000:=⟨h1,h2,G.steps,Rn _,G.behind⟩;have T:Hid (c.Vc*20+u-1=c.Vc*20+(u-1)):=by show _=_;omega
 obtain⟨v,hv⟩:∃v,u=v+1:=⟨u-1,by omega⟩
 subst hv;have p:Hid (c.Vc*20+(v+1)-1=c.Vc*20+v):=by show _=_;omega
 have J:(c.Vc:Int)*20+((v:Int)+1)-1=((c.Vc*20+v:Nat):Int):=by omega
 obtain⟨a,x⟩:∃a,c.Vc*20+v=a:=⟨_,rfl⟩
 have z:Hid (kE c (v+1) ⟨f,l,d⟩=if a<c.names.length then(0,{ eC { c with Vc:=0 } ⟨2,c.names.getD a 0,⟨f,l,d⟩⟩ with behind:=true }) else if a-c.names.length<c.tagged.length then(0,{ eC { c with Vc:=0 } ⟨3,c.tagged.getD (a-c.names.length) 0,⟨f,l,d⟩⟩ with behind:=true }) else(5,{ c with Vc:=0 })):=by
  show _=_;unfold kE;rw[p.out,x]
 rw[x]at J;have ad:a<=4000000000:=by omega
 go_enter func242,ntmps242
 go_upto_region 1 with fail
 rw[HW.out]
 go_upto_region 3 with fail
 rw[F.out];clear HW F y A c2 c3 c4 O p0 p1 p2 J p T x;obtain⟨y,A,c2,c3,c4⟩:=r.out.1.cells;simp only at y A;clear c2 c3 c4;have X:Hid (aA w i H o H):=aA.first K r.out.2
 by_cases D:a<c.names.length
 ·have I:=P0 c.names a D
  have q:Hid (kE c (v+1) ⟨f,l,d⟩=(0,{ eC { c with Vc:=0 } ⟨2,c.names[a],⟨f,l,d⟩⟩ with behind:=true })):=by show _=_;rw[z.out,QV D,I]
  have s:aw o (H 0) (bB c.names):=a8.own r.out.1 0
  rcases s.ways with ⟨_,h0,_⟩ | ⟨g,ac,p,-,e3,-⟩
  ·have:c.names.length=0:=h0
   omega
  ·have pe:=s.cell p a (.int .i64 c.names[a]) (jP c.names a D)
   rw[p]at y;have S:c.names.length<=(H 0).cap:=e3;generalize c.names[a]=M at *;clear s z A I
   go_upto_region 4 with fail
   go_region_with (go_at_call 244;refine(pC w { c with Vc:=0 } H 2 M f l d _ (by exact r.out.1.Va (ab.refl [] _).drew) C).mono ?_;rintro e w9 ⟨rfl,H9,t,N,-⟩)
   all_goals
    have E:=t.beh true;obtain⟨Y,P,R,d3,d4⟩:=t.cells;have Q:=a8.free t;clear Y P R d3 pe y r0 r1 r2;go_wp2;go_ret;exact⟨QM (by rw[q.out]),H9,by rw[q.out];exact E.out.1,aA.trans X.out (aA.trans (aA.first (ab.refl [] _).drew N) E.out.2)⟩
 ·have af:(a:Int)-(c.names.length:Int)=((a-c.names.length:Nat):Int):=by omega
  by_cases L:a-c.names.length<c.tagged.length
  ·have I:=P0 c.tagged (a-c.names.length) L
   have q:Hid (kE c (v+1) ⟨f,l,d⟩=(0,{ eC { c with Vc:=0 } ⟨3,c.tagged[a-c.names.length],⟨f,l,d⟩⟩ with behind:=true })):=by show _=_;rw[z.out,QS D,QV L,I]
   have s:aw o (H 1) (bB c.tagged):=a8.own r.out.1 1
   rcases s.ways with ⟨_,h0,_⟩ | ⟨g,ac,p,-,e3,-⟩
   ·have:c.tagged.length=0:=h0
    omega
   ·have pe:=s.cell p (a-c.names.length) (.int .i64 c.tagged[a-c.names.length]) (jP c.tagged _ L)
    rw[p]at A;have S:c.tagged.length<=(H 1).cap:=e3;generalize c.tagged[a-c.names.length]=M at *;clear s z I;generalize hj:a-c.names.length=j at *
    go_upto_region 9 with fail
    go_region_with (go_at_call 244;refine(pC w { c with Vc:=0 } H 3 M f l d _ (by exact r.out.1.Va (ab.refl [] _).drew) C).mono ?_;rintro e w9 ⟨rfl,H9,t,N,-⟩)
    all_goals
     have E:=t.beh true;obtain⟨Y,P,R,d3,d4⟩:=t.cells;have Q:=a8.free t;clear Y P R d3 pe y A r0 r1 r2;go_wp2;go_ret;exact⟨QM (by rw[q.out]),H9,by rw[q.out];exact E.out.1,aA.trans X.out (aA.trans (aA.first (ab.refl [] _).drew N) E.out.2)⟩
  ·have q:Hid (kE c (v+1) ⟨f,l,d⟩=(5,{ c with Vc:=0 })):=by show _=_;rw[z.out,QS D,QS L]
   clear z;generalize hj:a-c.names.length=j at *;go_wp2;go_ret;exact⟨QM (by rw[q.out]),H,by rw[q.out];exact r.out.1,X.out⟩
def cD(c:me)(n:Nat)(p:Pl):Int×me :=
 if 65<=n/\n<=84 then kE c (n-64) p
 else if 85<=n/\n<=89 then(0,mM c (n-84))
 else if n=90/\c.behind=true then(0,{ c with tagged:=c.tagged++[c.steps.length-1],behind:=false })
 else if n=63/\c.Vc=0 then(0,eC c ⟨1,0,p⟩)
 else(4,c)
theorem xo(c:me)(H:Nat->Hd)(n:Nat)(f:ByteArray)(l o:Int)(S:World)(h:dL S w c H)(D:gu c 10000000)(hn:n<256) :
  Calls prog 217 #[.pointer (some ⟨w,0,none⟩),.int .u8 n,.agg #[.string f,.int .i64 l,.int .i64 o]] S fun e z=>e=.returned (.int .i64 (cD c n ⟨f,l,o⟩).1)/\∃H',dL z w (cD c n ⟨f,l,o⟩).2 H'/\aA w S H z H':=by
 have aS:=D.steps;have ax:=D.tagged;obtain⟨W,x,K,B,p0,p1,p2⟩:=KO S f l o;have r:=h.Va K;clear h;obtain⟨O,Q,R,M,E⟩:=r.cells;have U:=a8.free r;have ar:=a8.lt r
 by_cases k:65<=n/\n<=84
 ·have a:Hid (cD c n ⟨f,l,o⟩=kE c (n-64) ⟨f,l,o⟩):=QV k
  have EN:=fun(z:World) (h':dL z w c H)=>vW w c H (n-64) f l o z h' D (by omega) (by omega)
  have ai:=hI EN;obtain⟨a1,a2⟩:=k;have he:(n:Int)-65+1=((n-64:Nat):Int):=by omega
  clear EN O Q R M E;generalize V:n-64=q at *;go_enter func217,ntmps217
  go_upto_region 1 with fail
  rw[x.out];go_wp2_with fail;refine(ai.out _ r).mono ?_;rintro e w2 ⟨rfl,Y,v,G⟩;go_wp2;go_ret;exact⟨QM (by rw[a.out]),Y,by rw[a.out];exact v,aA.first K G⟩
 ·by_cases s:85<=n/\n<=89
  ·have a:Hid (cD c n ⟨f,l,o⟩=(0,mM c (n-84))):=by show _=_;unfold cD;rw[QS k,QV s]
   obtain⟨a1,a2⟩:=s;have TD:=fun(z:World) (h':dL z w c H)=>xR w c H (n-84) z h' D (by omega)
   have X:=hI TD;have he:(n:Int)-85+1=((n-84:Nat):Int):=by omega
   have ap:¬n<=84:=by omega
   clear TD O Q R M E k;generalize V:n-84=q at *;go_enter func217,ntmps217
   go_upto_region 1 with fail
   rw[x.out];go_wp2_with fail;refine(X.out _ r).mono ?_;rintro e w2 ⟨rfl,v,G⟩;go_wp2;go_ret;exact⟨QM (by rw[a.out]),H,by rw[a.out];exact v,aA.first K G⟩
  ·by_cases t:n=90/\c.behind=true
   ·have a:Hid (cD c n ⟨f,l,o⟩=(0,{ c with tagged:=c.tagged++[c.steps.length-1],behind:=false })):=by show _=_;unfold cD;rw[QS k,QS s,QV t]
    obtain⟨rfl,p⟩:=t;have al:=D.behind p;rw[p]at E;obtain⟨d,I⟩:∃d,c.steps.length-1=d:=⟨_,rfl⟩
    have he:(c.steps.length:Int)-1=(d:Int):=by omega
    rw[I]at a;have az:IntKind.i64.wrap (d:Int)=(d:Int):=by rw[R8];omega
    obtain⟨i0,hi,ac,af,ag⟩:=Rd yF;have hD:Hid (dL (W.alloc (.cells #[.int .i64 d] 3)).drew w c H):=r.Va ((ab.refl [] W).alloc _).drew
    have s2:Hid (∀j u,([.int .i64 d]:List Value)[j]?=some u->(W.alloc (.cells #[.int .i64 d] 3)).drew.cell? ((⟨W.heap.size,0,none⟩:Addr).add j)=some u):=by
     intro j u L;have hk:(W.alloc (.cells #[.int .i64 d] 3)).drew.heap[W.heap.size]?=some (.cells #[.int .i64 d] 3 (0,0)):=QR _ _;rw[bL,aa hk];simpa using L
    have s3:Hid (∀u∈([.int .i64 d]:List Value),u.oneCell'=true):=by intro u hu;simp at hu;subst hu;rfl
    have s4:Hid ((bB c.tagged).n+1<=maxLen):=by show _<=_;simp only[bB];unfold maxLen;omega
    have s5:Hid (((bB c.tagged).n+1)*8<=140737488355328):=by show _<=_;simp only[bB];omega
    have Z:Hid (∀j,j≠1->wV { c with tagged:=c.tagged++[d] } j=wV c j):=by
     intro j L
     match j,L with
     | 0,_=>rfl
     | 1,L=>exact absurd rfl L
     | 2,_=>rfl
     | m+3,_=>rfl
    clear O M k s p0 p1 p2;go_enter func217,ntmps217
    go_upto_region 1 with fail
    rw[x.out];go_wp2_with fail
    go_region_law (refine cd rfl (.tmp 44) (.tmp 51) 26 rfl i0 (.int .i64 0) 8 (H 1) (bB c.tagged) underlying26 hi ac af ag rfl Rb (by simp[Act.eval] <;> rfl) (a8.own hD.out 1) ⟨W.heap.size,0,none⟩ 1 1 [.int .i64 d] (by simp[Act.eval]) rfl s2.out s3.out Rb s4.out s5.out ?_;intro g y w1 F P i;obtain⟨k5,f5,T⟩:=a8.app hD.out (cs':=lE { c with tagged:=c.tagged++[d] } (g9 H 1 ⟨some ⟨g,0,none⟩,y⟩)) (rows':=wV { c with tagged:=c.tagged++[d] }) 1 1 g y ((bB c.tagged).n+1) _ F (mu c.tagged d) P (by simpa using i) Z.out (.slice (H 1).ao c.tagged.length (H 1).cap) rfl (by simp[lE,g9,bB]);clear F P i)
    all_goals
     have v:=hI (a8.set T.out.1 4 (.bool false));have ad:=(a8.cell T.out.1 4);have aT:=a8.free T.out.1;simp only[lE,SD,Td,p]at ad;clear Q R E U k5 f5;go_wp2;go_ret;exact⟨QM (by rw[a.out]),_,by rw[a.out];exact v.out.1,((T.out.2.first ((ab.refl [] _).alloc _).drew).first K).trans v.out.2⟩
   ·by_cases A:n=63/\c.Vc=0
    ·have a:Hid (cD c n ⟨f,l,o⟩=(0,eC c ⟨1,0,⟨f,l,o⟩⟩)):=by show _=_;unfold cD;rw[QS k,QS s,QS t,QV A]
     obtain⟨rfl,C⟩:=A;rw[C]at M;clear O Q R k s t;go_enter func217,ntmps217
     go_upto_region 1 with fail
     rw[x.out];go_wp2_with fail;refine(pC w c H 1 0 f l o _ r D).mono ?_;rintro e w2 ⟨rfl,Y,v,G,-⟩;go_wp2;go_ret;exact⟨QM (by rw[a.out]),Y,by rw[a.out];exact v,aA.first K G⟩
    ·have a:Hid (cD c n ⟨f,l,o⟩=(4,c)):=by show _=_;unfold cD;rw[QS k,QS s,QS t,QS A]
     clear O Q R
     by_cases N:n=90
     ·have p:c.behind=false:=by
       cases V:c.behind with
       | false=>rfl
       | true=>exact absurd ⟨N,V⟩ t
      rw[p]at E;subst N;clear k s t A;go_enter func217,ntmps217
      go_upto_region 1 with fail
      rw[x.out];go_wp2;go_ret;exact⟨QM (by rw[a.out]),H,by rw[a.out];exact r,(aA.refl _ _ _).Va K⟩
     ·by_cases J:n=63
      ·have C:¬c.Vc=0:=fun hh=>A ⟨J,hh⟩
       have an:((c.Vc:Int)==0)=false:=Rg.2 (by omega);subst J;clear k s t A C;go_enter func217,ntmps217
       go_upto_region 1 with fail
       rw[x.out];go_wp2;go_ret;exact⟨QM (by rw[a.out]),H,by rw[a.out];exact r,(aA.refl _ _ _).Va K⟩
      ·have e1:((n:Int)==90)=false:=Rg.2 (by omega)
       have e2:((n:Int)==63)=false:=Rg.2 (by omega);clear t A M E
       by_cases a1:65<=n
       ·have a2:¬n<=84:=by omega
        have a3:85<=n:=by omega
        have a4:¬n<=89:=by omega
        clear k s;go_enter func217,ntmps217
        go_upto_region 1 with fail
        rw[x.out];go_wp2;go_ret;exact⟨QM (by rw[a.out]),H,by rw[a.out];exact r,(aA.refl _ _ _).Va K⟩
       ·have a3:¬85<=n:=by omega
        clear k s;go_enter func217,ntmps217
        go_upto_region 1 with fail
        rw[x.out];go_wp2;go_ret;exact⟨QM (by rw[a.out]),H,by rw[a.out];exact r,(aA.refl _ _ _).Va K⟩
theorem gu.letter{c:me}(h:gu c l)(n:Nat)(p:Pl):gu (cD c n p).2 (l+1):=by
  have e:=h.names;have d:=h.tagged;have f:=h.steps;have g:=h.Vc;have a:=h.behind;unfold cD
  split
  · unfold kE eC
    split
    · exact⟨by simp only;omega,by simp only;omega,by simp;omega,by simp,by simp⟩
    · split
      · exact⟨by simp only;omega,by simp only;omega,by simp;omega,by simp,by simp⟩
      · exact⟨by simp only;omega,by simp only;omega,by simp only;omega,by simp,a⟩
  · split
    · next b =>
      unfold mM
      split
      · exact⟨by simp only;omega,by simp only;omega,by simp only;omega,by simp only;omega,by simp⟩
      · exact⟨by simp only;omega,by simp only;omega,by simp only;omega,by simp only;omega,by simp⟩
    · split
      · exact⟨by simp only;omega,by simp;omega,by simp only;omega,by simp only;omega,by simp⟩
      · split
        · exact⟨by simp only[eC];omega,by simp only[eC];omega,by simp[eC];omega,by simp only[eC];omega,by simp[eC]⟩
        · exact⟨by simp only;omega,by simp only;omega,by simp only;omega,by simp only;omega,a⟩
def iQ(t:ByteArray)(p:Pl):Nat->Nat->me->pv×me
  | 0,_,c=>(cY,c)
  | f+1,j,c =>
    if j<t.size then
      (if((cD c (aF t j).toNat { p with col:=p.col+j }).1==0)=true then iQ t p f (j+1) (cD c (aF t j).toNat { p with col:=p.col+j }).2
       else(((cD c (aF t j).toNat { p with col:=p.col+j }).1,{ p with col:=p.col+j }),(cD c (aF t j).toNat { p with col:=p.col+j }).2))
    else(cY,c)
def mS(t:ByteArray)(p:Pl)(c:me):pv×me:=iQ t p (t.size+1) 0 c
theorem Qm(c:me)(b:w<v.size)(h:((cD c (aF v w).toNat { n with col:=n.col+w }).1==0)=true) :
    iQ v n (T+1) w c=iQ v n T (w+1) (cD c (aF v w).toNat { n with col:=n.col+w }).2:=by rw[iQ,QV b,QV h]
theorem Oj(c:me)(b:w<v.size)(h:((cD c (aF v w).toNat { n with col:=n.col+w }).1==0)=false) :
    iQ v n (T+1) w c=(((cD c (aF v w).toNat { n with col:=n.col+w }).1,{ n with col:=n.col+w }),(cD c (aF v w).toNat { n with col:=n.col+w }).2):=by rw[iQ,QV b,QS (by rw[h];simp)]
theorem Py(c:me)(a:¬w<v.size):iQ v n (T+1) w c=(cY,c):=by rw[iQ,QS a]
theorem da(h:f.heap[l]?=some (.cells bA 165 (0,0))) :
    f.cell? ⟨l,0,none⟩=some (.int .i64 0)/\f.cell? ⟨l,1,none⟩=some (.string ⟨#[]⟩)/\f.cell? ⟨l,2,none⟩=some (.int .i64 0)/\f.cell? ⟨l,3,none⟩=some (.int .i64 0):=by
  refine⟨?_,?_,?_,?_⟩ <;> (rw[aa h];rfl)
theorem vj{F:Nat}{i:List Value}{b:Nat->dN}{c:Nat->Hd}(D:a8 a l M i b c)(T:aA l f y a c)(d:f.heap.size<=F)(k:l≠F)(n:¬f9 c F)(h e j g:Value) :
    a8 ((((a.setCell ⟨F,0,none⟩ h).setCell ⟨F,1,none⟩ e).setCell ⟨F,2,none⟩ j).setCell ⟨F,3,none⟩ g) l M i b c /\
    aA l f y ((((a.setCell ⟨F,0,none⟩ h).setCell ⟨F,1,none⟩ e).setCell ⟨F,2,none⟩ j).setCell ⟨F,3,none⟩ g) c:=by
  refine⟨D.kept (ji _ _ _ _) (by simpa using k) (fun x m=>by simp;rintro rfl;exact n m),?_,T.2⟩;exact(((T.1.setCell (QU d) _).setCell (QU d) _).setCell (QU d) _).setCell (QU d) _
theorem AB(c:me)(H:Nat->Hd)(t f:ByteArray)(l b:Int)(a:World)(h:dL a w c H)(N:Nat)(ok:gu c N)(hN:N+t.size<=10000000)(ai:-1000000000<=b/\b<=1000000000) :
    Calls prog 184 #[.pointer (some ⟨w,0,none⟩),.agg #[.string t,.string f,.int .i64 l,.int .i64 b]] a fun e m=>e=.returned (gU (mS t ⟨f,l,b⟩ c).1)/\∃n,dL m w (mS t ⟨f,l,b⟩ c).2 n/\aA w a H m n:=by
  obtain⟨W,O⟩:∃W,W=(a.alloc (.cells #[.string t,.string f,.int .i64 l,.int .i64 b] 229)).alloc (.cells #[.int .i64 0,.string ⟨#[]⟩,.int .i64 0,.int .i64 0] 165):=⟨_,rfl⟩
  have K:ab [] a W:=by rw[O];exact((ab.refl [] _).alloc _).alloc _
  have L:W.heap[a.heap.size]?=some (.cells #[.string t,.string f,.int .i64 l,.int .i64 b] 229 (0,0)):=by rw[O];exact((ab.refl [] _).alloc _).get (QR _ _) (by simp)
  have BF:W.heap[a.heap.size+1]?=some (.cells bA 165 (0,0)):=by
    rw[O];have:=QR (a.alloc (.cells #[.string t,.string f,.int .i64 l,.int .i64 b] 229)) (.cells #[.int .i64 0,.string ⟨#[]⟩,.int .i64 0,.int .i64 0] 165);simpa [bA] using this
  have af:W.heap.size=a.heap.size+2:=by rw[O];simp
  have al:=a8.lt h;have E:Hid (∀k,a.heap.size<=k->¬f9 H k):=fun k hk hm=>by have:=a8.inlt h hm;omega
  have hC:=h.Va K;have HW:=hI O.symm;have u0:W.cell? ⟨a.heap.size,0,none⟩=some (.string t):=by rw[aa L];rfl
  have u1:W.cell? ⟨a.heap.size,1,none⟩=some (.string f):=by rw[aa L];rfl
  have u2:W.cell? ⟨a.heap.size,2,none⟩=some (.int .i64 l):=by rw[aa L];rfl
  have u3:W.cell? ⟨a.heap.size,3,none⟩=some (.int .i64 b):=by rw[aa L];rfl
  clear O;go_enter func184,ntmps184
  go_upto_region 1 with fail
  rw[HW.out];go_wp2
  go_loopg [6] t.size (fun gk i wr=>∃(j:Nat) (s:me) (n:Nat->Hd) (Y:Nat),j<=t.size/\gk=t.size-j/\i=.int .i64 j/\gu s (N+j)/\t.size-j+1<=Y/\Hid (mS t ⟨f,l,b⟩ c=iQ t ⟨f,l,b⟩ Y j s)/\dL wr w s n/\aA w a H wr n /\
    wr.heap[a.heap.size]?=some (.cells #[.string t,.string f,.int .i64 l,.int .i64 b] 229 (0,0))/\wr.heap[a.heap.size+1]?=some (.cells bA 165 (0,0))/\wr.heap[a.heap.size+2]?=some (.cells #[.string f,.int .i64 l,.int .i64 (b+j)] 36 (0,0))/\¬f9 n a.heap.size/\¬f9 n (a.heap.size+1)/\¬f9 n (a.heap.size+2))
  case atStart =>
    refine⟨0,c,H,t.size+1,by omega,by omega,rfl,ok,by omega,rfl,hC.Va ((ab.refl [] _).alloc _),(aA.refl _ _ _).Va (K.alloc _),((ab.refl [] _).alloc _).get L (by simp),((ab.refl [] _).alloc _).get BF (by simp),?_,E.out _ (by omega),E.out _ (by omega),E.out _ (by omega)⟩;rw[<-af];have:=QR W (.cells #[.string f,.int .i64 l,.int .i64 b] 36);simpa using this
  case round =>
    obtain⟨j,s,n,Y,hj,hg,rfl,q,ao,M,D,hT,B1,B2,R,n1,n2,n3⟩:=hrel;clear u0 u1 u2 u3 L BF hC HW;have u0:wr.cell? ⟨a.heap.size,0,none⟩=some (.string t):=by rw[aa B1];rfl
    have v0:wr.cell? ⟨a.heap.size+2,0,none⟩=some (.string f):=by rw[aa R];rfl
    have v1:wr.cell? ⟨a.heap.size+2,1,none⟩=some (.int .i64 l):=by rw[aa R];rfl
    have v2:wr.cell? ⟨a.heap.size+2,2,none⟩=some (.int .i64 (b+j)):=by rw[aa R];rfl
    obtain⟨p,rfl⟩:∃p,Y=p+1:=⟨Y-1,by omega⟩
    by_cases u:j<t.size
    · have X:(aF t j).toNat=t[j].toNat:=by rw[bP t j u];rfl
      have L1:=Qm t ⟨f,l,b⟩ p j s u;have L2:=Oj t ⟨f,l,b⟩ p j s u;have C:=q.letter t[j].toNat { (⟨f,l,b⟩:Pl) with col:=b+j };have V:t[j].toNat<256:=UInt8.toNat_lt _;have TL:=fun(m:World) (h':dL m w s n)=>xo w s n t[j].toNat f l (b+j) m h' ⟨by have:=q.names;omega,by have:=q.tagged;omega,by have:=q.steps;omega,by have:=q.Vc;omega,q.behind⟩ V
      rw[X]at L1 L2;simp only at L1 L2 C;have z:=hI L1;have A:=hI L2;have J:=hI TL;clear L1 L2 TL X;generalize cD s t[j].toNat ⟨f,l,b + ↑j⟩=Q at *;obtain⟨r,c2⟩:=Q;simp only at z A J C
      have B:Hid (∀(d:World) (o:Nat->Hd) (_:aA w wr.drew n d o),d.heap[a.heap.size]?=some (.cells #[.string t,.string f,.int .i64 l,.int .i64 b] 229 (0,0))/\d.heap[a.heap.size+1]?=some (.cells bA 165 (0,0))/\d.heap[a.heap.size+2]?=some (.cells #[.string f,.int .i64 l,.int .i64 (b+j)] 36 (0,0))):=by
        intro d o g;exact⟨g.1.get (by exact B1) (by rintro (e | e);omega;exact n1 e),g.1.get (by exact B2) (by rintro (e | e);omega;exact n2 e),g.1.get (by exact R) (by rintro (e | e);omega;exact n3 e)⟩
      have S:Hid (∀(d:World) (o:Nat->Hd) (_:aA w wr.drew n d o),d.cell? ⟨a.heap.size,0,none⟩=some (.string t)/\d.cell? ⟨a.heap.size+2,0,none⟩=some (.string f)/\d.cell? ⟨a.heap.size+2,1,none⟩=some (.int .i64 l)/\d.cell? ⟨a.heap.size+2,2,none⟩=some (.int .i64 (b+j))):=by
        intro d o g;obtain⟨q1,P,G⟩:=B.out d o g;refine⟨by rw[aa q1];rfl,by rw[aa G];rfl,by rw[aa G];rfl,by rw[aa G];rfl⟩
      have ac:=ae B1;have U:=ae B2;have ag:=ae R
      cases hr:(r==0)
      · have ad:(r != 0)=true:=by simp[bne,hr]
        have I:=hI (M.out.trans (A.out hr));clear M z A
        go_upto_region 5 with fail
        go_region_held3 (fun m=>m.cell? ⟨a.heap.size,0,none⟩=some (.string t)/\m.cell? ⟨a.heap.size+2,0,none⟩=some (.string f)/\m.cell? ⟨a.heap.size+2,1,none⟩=some (.int .i64 l)/\m.cell? ⟨a.heap.size+2,2,none⟩=some (.int .i64 (b+j))) (go_keep) (first | (go_at_call 217;refine(J.out _ (by exact D.Va (ab.refl [] _).drew)).mono ?_;rintro e d ⟨rfl,o,D9,g⟩;obtain⟨x0,x1,x2,x3⟩:=S.out d o g))
        all_goals
          obtain⟨q1,P,G⟩:=B.out d o g;obtain⟨j0,j1,j2,j3⟩:=da P;have y:=am P;have m2:=g.fresh (a.heap.size+1) (by exact U) n2;have Z:=hI (fun a0 a1 a2 a3=>vj D9 (hT.trans (aA.first (ab.refl [] _).drew g)) (F:=a.heap.size+1) (by omega) (by omega) m2 a0 a1 a2 a3);go_wp2
          exact QX (v:=.agg #[.int .i64 r,.string f,.int .i64 l,.int .i64 (b+j)]) (by simp[results,results184,go_sem,j0,j1,j2,j3]) rfl
            ⟨by rw[I.out];rfl,o,by rw[I.out];exact(Z.out _ _ _ _).1,(Z.out _ _ _ _).2⟩
      · have ad:(r != 0)=false:=by simp[bne,hr]
        have I:=hI (M.out.trans (z.out hr));clear M z A
        go_upto_region 5 with fail
        go_region_held3 (fun m=>m.cell? ⟨a.heap.size,0,none⟩=some (.string t)/\m.cell? ⟨a.heap.size+2,0,none⟩=some (.string f)/\m.cell? ⟨a.heap.size+2,1,none⟩=some (.int .i64 l)/\m.cell? ⟨a.heap.size+2,2,none⟩=some (.int .i64 (b+j))) (go_keep) (first | (go_at_call 217;refine(J.out _ (by exact D.Va (ab.refl [] _).drew)).mono ?_;rintro e d ⟨rfl,o,D9,g⟩;obtain⟨x0,x1,x2,x3⟩:=S.out d o g))
        all_goals
          obtain⟨q1,P,G⟩:=B.out d o g;have y:=am G;have m1:=g.fresh a.heap.size (by exact ac) n1;have m2:=g.fresh (a.heap.size+1) (by exact U) n2;have m3:=g.fresh (a.heap.size+2) (by exact ag) n3;have T:=hT.trans (aA.first (ab.refl [] _).drew g);go_wp2
          go_roundg (t.size-(j+1))
          case measure=>omega
          case rel =>
            have kk:ab [a.heap.size+2] d (d.setCell ⟨a.heap.size+2,2,none⟩ (.int .i64 (b + ↑j+1))):=(ab.refl _ _).setCell (Q0 (by simp)) _;refine⟨j+1,c2,o,p,by omega,rfl,by go_num,by rw[<-U0];exact C,by omega,I.out,a8.kept D9 kk (by simp;omega) (by intro x hx;simp;rintro rfl;exact m3 hx),⟨T.1.setCell (QU (by simp)) _,T.2⟩,kk.get q1 (by simp),kk.get P (by simp),?_,m1,m2,m3⟩;rw[ah G,show b+(↑(j+1):Int)=b + ↑j+1 by omega];rfl
    · have I:=hI (M.out.trans (Py t ⟨f,l,b⟩ p j s u))
      obtain⟨j0,j1,j2,j3⟩:=da B2;have y:=am B2;have Z:=hI (fun a0 a1 a2 a3=>vj D hT (F:=a.heap.size+1) (by omega) (by omega) n2 a0 a1 a2 a3);clear M;go_wp2
      exact QX (v:=.agg #[.int .i64 0,.string ⟨#[]⟩,.int .i64 0,.int .i64 0]) (by simp[results,results184,go_sem,j0,j1,j2,j3]) rfl
        ⟨by rw[I.out];rfl,n,by rw[I.out];exact(Z.out _ _ _ _).1,(Z.out _ _ _ _).2⟩
def jG(l:List Nat)(x:Nat):Bool:=l.any (fun y=>y==x)
theorem BN(h:w<k.length)(b:jG k T=jG (k.drop w) T)(a:(k[w]==T)=true):jG k T=true:=by
 rw[b,Re h];simp only[jG,TA,a,Tr]
theorem yC(h:w<k.length)(b:jG k T=jG (k.drop w) T)(a:(k[w]==T)=false):jG k T=jG (k.drop (w+1)) T:=by
 rw[b,Re h];simp only[jG,TA,a,So]
theorem yD(h:¬w<k.length)(a:jG k T=jG (k.drop w) T):jG k T=false:=by
 rw[a,R6 (by omega)];rfl
theorem oE:((T:Int)==(w:Int))=(T==w):=by
 cases h:(T==w)
 ·exact Rg.2 (by have:=Rg.1 h;omega)
 ·have:=TQ h;subst this;simp
theorem CA(j:Hd)(l:List Nat)(x:Nat)(w:World)(b:aw w j (bB l))(q:l.length<=1073741824) :
  Calls prog 216 #[.slice j.ao l.length j.cap,.int .i64 x] w fun e s=>e=.returned (.bool (jG l x))/\s=w:=by
 obtain⟨y,u⟩:=j
 rcases b.ways with ⟨r,p,_⟩ | ⟨g,t,o,_⟩
 ·have f:l.length=0:=p
  have n:l=[]:=Rj f;subst n;clear b p f q r;go_enter func216,ntmps216;go_wp2;refine SV 1 ?_;rw[Tq];go_wp2;go_ret;exact⟨rfl,rfl⟩
 ·simp only at o
  subst o;go_enter func216,ntmps216;go_wp2
  go_loopg [5] l.length (fun g i wr=>∃k:Nat,k<=l.length/\g=l.length-k/\i=.int .i64 k/\Hid (jG l x=jG (l.drop k) x)/\wr=w)
  case atStart=>exact⟨0,by omega,by omega,rfl,rfl,rfl⟩
  case round =>
   obtain⟨k,v,z,rfl,c,rfl⟩:=hrel
   by_cases a:k<l.length
   ·have A:=b.cell rfl k (.int .i64 l[k]) (jP l k a)
    cases d:(l[k]==x)
    ·have h:Hid (jG l x=jG (l.drop (k+1)) x):=yC l x k a c.out d
     have m:=(oE l[k] x).trans d;clear c b d;go_wp2
     go_roundg (l.length-(k+1))
     case measure=>omega
     case rel=>exact⟨k+1,by omega,rfl,by go_num,h,rfl⟩
    ·have h:Hid (jG l x=true):=BN l x k a c.out d
     have m:=(oE l[k] x).trans d;clear c b d;go_wp2;go_ret;exact⟨aD h.out.symm,rfl⟩
   ·have h:Hid (jG l x=false):=yD l x k a c.out
    clear c b;go_wp2;go_ret;exact⟨aD h.out.symm,rfl⟩
def dD(l:List St)(a:Nat)(fin:Pl):Nat->List (ByteArray×Pl)->List Nat->(Nat×pv)×List Nat
 | _,[],ns=>((0,(3,fin)),ns)
 | i,(t,p) :: r,ns =>
  if(t.toList == [41])=true then((i+1,cY),ns)
  else match mx l t a with
   | none=>((0,(2,p)),ns)
   | some n=>if jG ns n=true then((0,(3,p)),ns) else dD l a fin (i+1) r (ns++[n])
theorem dF.far{P:Nat->Prop}{c:Nat}(h:dF f l M I y)(k:eK P f a)(d:∀x,P x->c<=x)(i:∀x,f9 y x->x<c)(m:l<c):dF a l M I y:=by
 obtain⟨b,t,n,g⟩:=h.cell;exact⟨⟨b,t,k.get n (fun e=>by have:=d _ e;omega),g⟩,h.sts.keptP k (fun x j e=>by have:=d _ e;have:=i _ j;omega)⟩
theorem aw.word{l:List (ByteArray×Pl)}(o:aw f D (gN l))(k:Nat)(e:k<l.length) :
  ∃g,D.ao=some ⟨g,0,none⟩/\l.length<=D.cap/\D.cap<=9223372036854775807/\f.cell? ⟨g,k*4,none⟩=some (.string l[k].1)/\f.cell? ⟨g,k*4+1,none⟩=some (.string l[k].2.file)/\f.cell? ⟨g,k*4+2,none⟩=some (.int .i64 l[k].2.line)/\f.cell? ⟨g,k*4+3,none⟩=some (.int .i64 l[k].2.col):=by
 rcases o.ways with ⟨_,n,_⟩ | ⟨g,m,b,p,h,a,-⟩
 ·have:l.length=0:=n
  omega
 ·have c:=fun j (d:j<4) v (i:(qW l[k])[j]?=some v)=>o.cell b (k*4+j) v ((Kc l k e j d).trans i)
  exact⟨g,b,h,by unfold maxLen at a;exact a,c 0 (by omega) _ rfl,c 1 (by omega) _ rfl,c 2 (by omega) _ rfl,c 3 (by omega) _ rfl⟩
theorem gu.named{c:me}(h:gu c l)(n:Nat):gu { c with names:=c.names++[n] } (l+1) :=
 ⟨by have:=h.names;simp;omega,by have:=h.tagged;simp only;omega,by have:=h.steps;simp only;omega,by have:=h.Vc;simp only;omega,h.behind⟩
theorem G8(b:x<H.length) :
  dD i o n x (H.drop x) d=if(H[x].1.toList == [41])=true then((x+1,cY),d)
   else match mx i H[x].1 o with
    | none=>((0,(2,H[x].2)),d)
    | some a=>if jG d a=true then((0,(3,H[x].2)),d) else dD i o n (x+1) (H.drop (x+1)) (d++[a]):=by
 rw[Re b];rfl
theorem DJ(a:¬x<H.length):dD i o n x (H.drop x) d=((0,(3,n)),d):=by
 rw[R6 (by omega)];rfl
theorem xQ(c:me)(X:Nat->Hd)(rb U a:Nat)(l:List St)(H:Nat->Hd)(w0 o:World)(h:dL o w c X)(ai:dF w0 rb U l H)(af:ab [] w0 o)(ha:a<l.length)(ok:iH l)(bo:c.names.length<=10000)(hb:w0.heap.size<=w)(hc:∀x,f9 X x->w0.heap.size<=x) :
  Calls prog 183 #[.pointer (some ⟨w,0,none⟩),.pointer (some ⟨rb,U,none⟩),.int .i64 a] o fun e w' =>
   e=.returned (.tuple #[.int .i64 (dD l a l[a].fin 1 (l[a].proof.drop 1) c.names).1.1,gU (dD l a l[a].fin 1 (l[a].proof.drop 1) c.names).1.2])/\∃ap,dL w' w { c with names:=(dD l a l[a].fin 1 (l[a].proof.drop 1) c.names).2 } ap/\aA w o X w' ap:=by
 obtain⟨i0,a6,aT,a4,ba⟩:=Rd yF;have br:=a8.lt h;have hr:=ai.Va af;have be:=ok.len;have bs:=ok.prfs a ha;have ag:Hid (∀k,o.heap.size<=k->¬f9 X k):=fun k hk hm=>by have:=a8.inlt h hm;omega
 obtain⟨N,ad⟩:∃N,Hid ((H (11+2*a)).ao=N):=⟨_,rfl⟩
 obtain⟨W,hW⟩:∃W,W=o.alloc (.cells #[.int .i64 0,.string ⟨#[]⟩,.int .i64 0,.int .i64 0] 165):=⟨_,rfl⟩
 have K:ab [] o W:=by rw[hW];exact(ab.refl [] _).alloc _
 have BF:W.heap[o.heap.size]?=some (.cells bA 165 (0,0)):=by rw[hW];exact QR _ _
 have HW:=hI hW.symm;clear hW;go_enter func183,ntmps183
 go_upto_region 1 with fail
 rw[HW.out];go_wp2_with fail;refine(a9 rb U a l H _ (hr.Va K) ha).mono ?_;rintro e y ⟨rfl,D⟩;unfold ee;rw[ad.out];obtain⟨W2,z⟩:∃W2,W2=y.alloc (.cells #[.int .i64 l[a].kind,.string l[a].label,.slice (H (10+2*a)).ao l[a].U5.length (H (10+2*a)).cap,.slice N l[a].proof.length (H (11+2*a)).cap,.string l[a].fin.file,.int .i64 l[a].fin.line,.int .i64 l[a].fin.col,.int .i64 l[a].til] 158):=⟨_,rfl⟩
 have ar:=hI z.symm;have K2:ab [] o W2:=by rw[z];exact(K.trans D).alloc _
 have BT:W2.heap[y.heap.size]?=some (.cells #[.int .i64 l[a].kind,.string l[a].label,.slice (H (10+2*a)).ao l[a].U5.length (H (10+2*a)).cap,.slice N l[a].proof.length (H (11+2*a)).cap,.string l[a].fin.file,.int .i64 l[a].fin.line,.int .i64 l[a].fin.col,.int .i64 l[a].til] 158 (0,0)):=by rw[z];exact QR _ _
 have an:W2.heap[o.heap.size]?=some (.cells bA 165 (0,0)):=by rw[z];exact((ab.refl [] _).alloc _).get (D.get BF (by simp)) (by simp)
 have bp:o.heap.size<y.heap.size:=by have:=ae (D.get BF (by simp));omega
 clear z
 go_upto_region 2 with fail
 rw[ar.out];clear HW ar D BF K;obtain⟨TB,R⟩:∃TB:Array Value,TB=#[.int .i64 l[a].kind,.string l[a].label,.slice (H (10+2*a)).ao l[a].U5.length (H (10+2*a)).cap,.slice N l[a].proof.length (H (11+2*a)).cap,.string l[a].fin.file,.int .i64 l[a].fin.line,.int .i64 l[a].fin.col,.int .i64 l[a].til]:=⟨_,rfl⟩
 rw[<-R]at BT;have B:=hI R;clear R;go_wp2
 go_loopg [9] (l[a].proof.length-1) (fun gk iv wr=>∃(i:Nat) (b:List Nat) (p:Nat->Hd),1<=i/\i<=10001/\gk=l[a].proof.length-i/\iv=.int .i64 i/\b.length<=10000+i/\Hid (dD l a l[a].fin 1 (l[a].proof.drop 1) c.names=dD l a l[a].fin i (l[a].proof.drop i) b)/\dL wr w { c with names:=b } p/\aA w o X wr p /\
  wr.heap[o.heap.size]?=some (.cells bA 165 (0,0))/\wr.heap[y.heap.size]?=some (.cells TB 158 (0,0))/\¬f9 p o.heap.size/\¬f9 p y.heap.size)
 case atStart=>exact⟨1,c.names,X,by omega,by omega,rfl,rfl,by omega,rfl,h.Va K2,(aA.refl _ _ _).Va K2,an,BT,ag.out _ (by omega),ag.out _ (by omega)⟩
 case round =>
  obtain⟨i,b,p,bv,bj,hg,rfl,bl,hR,hC,hT,B1,B2,n1,n2⟩:=hrel;clear BT an K2
  have hP:∀x,(x=w∨f9 X x)->w0.heap.size<=x:=by
   rintro x (e | e)
   ·omega
   ·exact hc x e
  have V:dF wr rb U l H:=ai.Va (af.ofP hT.1 hP);have ac:=V.sts.prfs a l[a] (QO ha);have bc:=ae B1;have bf:=ae B2;obtain⟨P,T,z2,Y⟩:=da B1;have yz:=am B1
  by_cases O:i<l[a].proof.length
  ·obtain⟨gp,ep,bd,a7,d0,d1,d2,d3⟩:=ac.word i O
   obtain rfl:N=some ⟨gp,0,none⟩:=ad.out.symm.trans ep;have a5:=hI ep;have t3:wr.cell? ⟨y.heap.size,3,none⟩=some (.slice (some ⟨gp,0,none⟩) l[a].proof.length (H (11+2*a)).cap):=by rw[aa B2,B.out];rfl
   clear ep;have BL:=G8 l a l[a].fin i l[a].proof b O;have g:=hI (hR.out.trans BL);clear BL hR ac;generalize hwd:l[a].proof[i]=wd at *;obtain⟨t,L,pl,S⟩:=wd;simp only at d0 d1 d2 d3 g;obtain⟨s,E⟩:∃s,s=wr.alloc (.cells #[.string t,.string L,.int .i64 pl,.int .i64 S] 229):=⟨_,rfl⟩
   have Z:ab [] wr s:=by rw[E];exact(ab.refl [] _).alloc _
   have B5:s.heap[wr.heap.size]?=some (.cells #[.string t,.string L,.int .i64 pl,.int .i64 S] 229 (0,0)):=by rw[E];exact QR _ _
   have al:=hI E.symm;have bg:gp<wr.heap.size:=(V.sts.prfs a l[a] (QO ha)).lt (by unfold Hd.blk;rw[a5.out];rfl);clear E
   go_upto_region 6 with fail
   rw[al.out];clear al d0 d1 d2 d3 t3 P T z2 Y yz;have v0:s.cell? ⟨wr.heap.size,0,none⟩=some (.string t):=by rw[aa B5];rfl
   have v1:s.cell? ⟨wr.heap.size,1,none⟩=some (.string L):=by rw[aa B5];rfl
   have v2:s.cell? ⟨wr.heap.size,2,none⟩=some (.int .i64 pl):=by rw[aa B5];rfl
   have v3:s.cell? ⟨wr.heap.size,3,none⟩=some (.int .i64 S):=by rw[aa B5];rfl
   have C5:=hC.Va Z;have T5:=hT.Va Z;have R5:=V.Va Z;have F5:=Z.get B1 (by simp);have S5:=Z.get B2 (by simp);obtain⟨P,T,z2,Y⟩:=da F5;have yz:=am F5;have C:=hI (fun a0 a1 a2 a3=>vj C5 T5 (F:=o.heap.size) (QQ _) (by omega) n1 a0 a1 a2 a3)
   cases ht:(t.toList == [41])
   ·rcases hf:mx l t a with _ | n
    ·have r:Hid (dD l a l[a].fin 1 (l[a].proof.drop 1) c.names=((0,(2,⟨L,pl,S⟩)),b)):=by show _=_;rw[g.out,ht,hf];simp
     clear g
     go_upto_region 10 with (go_at_call 185;refine(iq rb U a t l H _ (by exact R5) (by omega)).mono ?_;rintro e w6 ⟨rfl,A⟩;rw[A,hf];simp only[nz])
     go_region
     all_goals go_wp2
     all_goals exact QX (v:=.tuple #[.int .i64 0,.agg #[.int .i64 2,.string L,.int .i64 pl,.int .i64 S]]) (by simp[results,results183,go_sem,P,T,z2,Y]) rfl ⟨by rw[r.out];rfl,p,by rw[r.out];exact(dL.Va (C.out _ _ _ _).1 (ab.refl [] _).drew),aA.Va (C.out _ _ _ _).2 (ab.refl [] _).drew⟩
    ·obtain⟨k0,k1,k2,k3,k4⟩:=C5.cells
     simp only at k0;clear k1 k2 k3 k4;have Q:aw s (p 0) (bB b):=a8.own C5 0
     cases hh:jG b n
     ·have r:Hid (dD l a l[a].fin 1 (l[a].proof.drop 1) c.names=dD l a l[a].fin (i+1) (l[a].proof.drop (i+1)) (b++[n])):=by show _=_;rw[g.out,ht,hf];simp[hh]
      have M:=C5.Va ((ab.refl [] s).alloc (.cells #[.int .i64 n] 3));have az:=a8.free C5;have bk:=a8.lt C5
      have aS:Hid (∀j,j≠0->wV { c with names:=b++[n] } j=wV { c with names:=b } j):=by
       intro j G
       match j,G with
       | 0,G=>exact absurd rfl G
       | 1,_=>rfl
       | 2,_=>rfl
       | m+3,_=>rfl
      clear g C P T z2 Y yz
      go_upto_region 13 with (first | (go_at_call 185;refine(iq rb U a t l H _ (by exact R5) (by omega)).mono ?_;rintro e w6 ⟨rfl,A⟩;rw[A,hf];simp only[nz]) | (go_at_call 216;refine(CA (p 0) b n _ (by exact Q) (by omega)).mono ?_;rintro e w7 ⟨rfl,J⟩;rw[J]))
      go_wp2_with (at_builtin;refine aM _ rfl (.tmp 56) (.tmp 58) 26 rfl i0 (.int .i64 0) 8 (p 0) (bB b) underlying26 a6 aT a4 ba rfl Rb rfl (by exact a8.own M 0) ⟨_,0,none⟩ 1 1 [.int .i64 n] rfl rfl ?e1 ?e2 Rb ?e3 ?e4 ?_)
      case e1=>intro j u G;match j,G with | 0,G=>simp at G;subst G;simp[Addr.add]
      case e2=>intro u hu;simp at hu;subst hu;rfl
      case e3=>simp only[bB];unfold maxLen;omega
      case e4=>simp only[bB];omega
      intro g8 f w8 ax I q;obtain⟨k5,f5,HP⟩:=a8.app M (cs':=lE { c with names:=b++[n] } (g9 p 0 ⟨some ⟨g8,0,none⟩,f⟩)) (rows':=wV { c with names:=b++[n] }) 0 0 g8 f ((bB b).n+1) _ ax (mu b n) I (by simpa using q) aS.out (.slice (p 0).ao b.length (p 0).cap) rfl (by simp[lE,g9,bB]);have T8:=(show Hid _ from(T5.Va ((ab.refl [] s).alloc (.cells #[.int .i64 n] 3))).trans HP.out.2);have F8:Hid ((w8.setCell ⟨w,0,none⟩ (.slice (some ⟨g8,0,none⟩) ((bB b).n+1) f)).heap[o.heap.size]?=some (.cells bA 165 (0,0))):=HP.out.2.1.get (((ab.refl [] s).alloc _).get F5 (by simp)) (by rintro (e | e);omega;exact n1 e);have S8:Hid ((w8.setCell ⟨w,0,none⟩ (.slice (some ⟨g8,0,none⟩) ((bB b).n+1) f)).heap[y.heap.size]?=some (.cells TB 158 (0,0))):=HP.out.2.1.get (((ab.refl [] s).alloc _).get S5 (by simp)) (by rintro (e | e);omega;exact n2 e);have m1:Hid (¬f9 (g9 p 0 ⟨some ⟨g8,0,none⟩,f⟩) o.heap.size):=aA.fresh HP.out.2 _ (by have:=Z.size;simp;omega) n1;have m2:Hid (¬f9 (g9 p 0 ⟨some ⟨g8,0,none⟩,f⟩) y.heap.size):=aA.fresh HP.out.2 _ (by have:=Z.size;simp;omega) n2;clear ax I q k0 az Q M v0 v1 v2 v3;go_wp2
      go_roundg (l[a].proof.length-(i+1))
      case measure=>omega
      case rel=>exact⟨i+1,b++[n],_,by omega,by omega,rfl,by go_num,by simp;omega,r.out,HP.out.1,T8.out,F8.out,S8.out,m1.out,m2.out⟩
     ·have r:Hid (dD l a l[a].fin 1 (l[a].proof.drop 1) c.names=((0,(3,⟨L,pl,S⟩)),b)):=by show _=_;rw[g.out,ht,hf];simp[hh]
      clear g
      go_upto_region 12 with (first | (go_at_call 185;refine(iq rb U a t l H _ (by exact R5) (by omega)).mono ?_;rintro e w6 ⟨rfl,A⟩;rw[A,hf];simp only[nz]) | (go_at_call 216;refine(CA (p 0) b n _ (by exact Q) (by omega)).mono ?_;rintro e w7 ⟨rfl,J⟩;rw[J]))
      go_region
      all_goals go_wp2
      all_goals exact QX (v:=.tuple #[.int .i64 0,.agg #[.int .i64 3,.string L,.int .i64 pl,.int .i64 S]]) (by simp[results,results183,go_sem,P,T,z2,Y]) rfl ⟨by rw[r.out];rfl,p,by rw[r.out];exact(dL.Va (C.out _ _ _ _).1 (ab.refl [] _).drew),aA.Va (C.out _ _ _ _).2 (ab.refl [] _).drew⟩
   ·have r:Hid (dD l a l[a].fin 1 (l[a].proof.drop 1) c.names=((i+1,cY),b)):=by show _=_;rw[g.out,ht];simp
    clear g;go_wp2
    exact QX (v:=.tuple #[.int .i64 (i+1),.agg #[.int .i64 0,.string ⟨#[]⟩,.int .i64 0,.int .i64 0]]) (by simp[results,results183,go_sem,P,T,z2,Y]) rfl
     ⟨by rw[r.out];rfl,p,by rw[r.out];exact(C.out _ _ _ _).1,(C.out _ _ _ _).2⟩
  ·have r:Hid (dD l a l[a].fin 1 (l[a].proof.drop 1) c.names=((0,(3,l[a].fin)),b)):=hR.out.trans (DJ l a l[a].fin i l[a].proof b O)
   have t3:wr.cell? ⟨y.heap.size,3,none⟩=some (.slice N l[a].proof.length (H (11+2*a)).cap):=by rw[aa B2,B.out];rfl
   have t4:wr.cell? ⟨y.heap.size,4,none⟩=some (.string l[a].fin.file):=by rw[aa B2,B.out];rfl
   have t5:wr.cell? ⟨y.heap.size,5,none⟩=some (.int .i64 l[a].fin.line):=by rw[aa B2,B.out];rfl
   have t6:wr.cell? ⟨y.heap.size,6,none⟩=some (.int .i64 l[a].fin.col):=by rw[aa B2,B.out];rfl
   have C:=hI (fun a0 a1 a2 a3=>vj hC hT (F:=o.heap.size) (QQ _) (by omega) n1 a0 a1 a2 a3);clear hR ac
   go_upto_region 14 with fail
   go_region
   all_goals go_wp2
   all_goals exact QX (v:=.tuple #[.int .i64 0,.agg #[.int .i64 3,.string l[a].fin.file,.int .i64 l[a].fin.line,.int .i64 l[a].fin.col]]) (by simp[results,results183,go_sem,P,T,z2,Y]) rfl ⟨by rw[r.out];rfl,p,by rw[r.out];exact(dL.Va (C.out _ _ _ _).1 (ab.refl [] _).drew),aA.Va (C.out _ _ _ _).2 (ab.refl [] _).drew⟩
def fL(l:List St)(a:Nat)(fin:Pl):List (ByteArray×Pl)->List nE->List nE×pv
 | [],acc=>if acc.length=0 then([],(1,fin)) else(acc,cY)
 | (t,p) :: r,acc =>
  if(t.toList == [63])=true then fL l a fin r (acc++[⟨1,0,p⟩])
  else match mx l t a with
   | none=>([],(2,p))
   | some n=>fL l a fin r (acc++[⟨2,n,p⟩])
theorem LK(a:List nE)(c:x<H.length) :
  fL i o n (H.drop x) a=if(H[x].1.toList == [63])=true then fL i o n (H.drop (x+1)) (a++[⟨1,0,H[x].2⟩])
   else match mx i H[x].1 o with
    | none=>([],(2,H[x].2))
    | some b=>fL i o n (H.drop (x+1)) (a++[⟨2,b,H[x].2⟩]):=by
 rw[Re c];rfl
theorem IX(a:List nE)(b:¬x<H.length):fL i o n (H.drop x) a=if a.length=0 then([],(1,n)) else(a,cY):=by
 rw[R6 (by omega)];rfl
theorem kG{F:Nat}(K:ab [] f a)(b:f.heap.size<=F)(d g e c:Value):ab [] f ((((a.setCell ⟨F,0,none⟩ d).setCell ⟨F,1,none⟩ g).setCell ⟨F,2,none⟩ e).setCell ⟨F,3,none⟩ c) :=
 (((K.setCell (QU b) _).setCell (QU b) _).setCell (QU b) _).setCell (QU b) _
theorem Qc(K:ab [] f a)(b:f.heap.size<=l)(d h g c e:Value):ab [] f (((((a.setCell ⟨l,0,none⟩ d).setCell ⟨l,1,none⟩ h).setCell ⟨l,2,none⟩ g).setCell ⟨l,3,none⟩ c).setCell ⟨l,4,none⟩ e) :=
 ((((K.setCell (QU b) _).setCell (QU b) _).setCell (QU b) _).setCell (QU b) _).setCell (QU b) _
theorem pR(l:List St)(H:Nat->Hd)(y:World)(hr:dF y x T l H)(ha:w<l.length)(ok:iH l) :
  Calls prog 139 #[.pointer (some ⟨x,T,none⟩),.int .i64 w] y fun e w'=>∃o:Hd,
   e=.returned (.tuple #[.slice o.ao (fL l w l[w].fin l[w].proof []).1.length o.cap,gU (fL l w l[w].fin l[w].proof []).2])/\aw w' o (go (fL l w l[w].fin l[w].proof []).1)/\(∀h,o.blk=some h->y.heap.size<=h)/\ab [] y w':=by
 obtain⟨i0,ar,ag,L,ax⟩:=Rd Oz;have bf:=hr.lt;have a5:=ok.len;have bg:=ok.prfs w ha;obtain⟨AO,ad⟩:∃AO,Hid ((H (11+2*w)).ao=AO):=⟨_,rfl⟩
 obtain⟨W,hW⟩:∃W,W=y.alloc (.cells #[.int .i64 0,.string ⟨#[]⟩,.int .i64 0,.int .i64 0] 165):=⟨_,rfl⟩
 have K:ab [] y W:=by rw[hW];exact(ab.refl [] _).alloc _
 have BF:W.heap[y.heap.size]?=some (.cells bA 165 (0,0)):=by rw[hW];exact QR _ _
 have HW:=hI hW.symm;clear hW;go_enter func139,ntmps139
 go_upto_region 1 with fail
 rw[HW.out];go_wp2_with fail;refine(a9 x T w l H _ (hr.Va K) ha).mono ?_;rintro e Q ⟨rfl,J⟩;unfold ee;rw[ad.out];obtain⟨s,z⟩:∃s,s=Q.alloc (.cells #[.int .i64 l[w].kind,.string l[w].label,.slice (H (10+2*w)).ao l[w].U5.length (H (10+2*w)).cap,.slice AO l[w].proof.length (H (11+2*w)).cap,.string l[w].fin.file,.int .i64 l[w].fin.line,.int .i64 l[w].fin.col,.int .i64 l[w].til] 158):=⟨_,rfl⟩
 have ap:=hI z.symm;have K2:ab [] y s:=by rw[z];exact(K.trans J).alloc _
 obtain⟨TB,V⟩:∃TB:Array Value,TB=#[.int .i64 l[w].kind,.string l[w].label,.slice (H (10+2*w)).ao l[w].U5.length (H (10+2*w)).cap,.slice AO l[w].proof.length (H (11+2*w)).cap,.string l[w].fin.file,.int .i64 l[w].fin.line,.int .i64 l[w].fin.col,.int .i64 l[w].til]:=⟨_,rfl⟩
 have BT:s.heap[Q.heap.size]?=some (.cells TB 158 (0,0)):=by rw[z,V];exact QR _ _
 have aT:s.heap[y.heap.size]?=some (.cells bA 165 (0,0)):=by rw[z];exact((ab.refl [] _).alloc _).get (J.get BF (by simp)) (by simp)
 have bd:y.heap.size<Q.heap.size:=by have:=ae (J.get BF (by simp));omega
 have ba:=ae BT;have I:=hI V;clear z V
 go_upto_region 2 with fail
 rw[ap.out];clear HW ap J BF K;go_wp2
 go_loopg [7,8] l[w].proof.length (fun gk sv iv wr=>∃(i:Nat) (a:List nE) (o:Hd),i<=l[w].proof.length/\gk=l[w].proof.length-i/\iv=.int .i64 i/\sv=.slice o.ao a.length o.cap/\a.length<=i/\Hid (fL l w l[w].fin l[w].proof []=fL l w l[w].fin (l[w].proof.drop i) a)/\aw wr o (go a)/\(∀h,o.blk=some h->s.heap.size<=h) /\
  ab [] s wr)
 case atStart=>exact⟨0,[],⟨none,0⟩,by omega,by omega,rfl,rfl,by simp,rfl,QY _ _ _ _,by intro h g;simp[Hd.blk]at g,ab.refl _ _⟩
 case round =>
  obtain⟨i,a,o,hi,hg,rfl,rfl,be,hR,hO,hN,hK⟩:=hrel;have KW:=K2.trans hK;have an:=hr.Va KW;have B1:=hK.get aT (by simp);have B2:=hK.get BT (by simp);have a3:=ae B1;have a6:=ae B2;obtain⟨U,Y,z2,z3⟩:=da B1;have yz:=am B1;have N:=an.sts.prfs w l[w] (QO ha);have az:=K2.size
  by_cases S:i<l[w].proof.length
  ·obtain⟨gp,ep,a4,a2,d0,d1,d2,d3⟩:=N.word i S
   obtain rfl:AO=some ⟨gp,0,none⟩:=ad.out.symm.trans ep;have t3:wr.cell? ⟨Q.heap.size,3,none⟩=some (.slice (some ⟨gp,0,none⟩) l[w].proof.length (H (11+2*w)).cap):=by rw[aa B2,I.out];rfl
   have a7:gp<wr.heap.size:=N.lt (by unfold Hd.blk;rw[ep];rfl);clear ep;have BL:=LK l w l[w].fin i l[w].proof a S;have q:=hI (hR.out.trans BL);clear BL hR N;generalize hwd:l[w].proof[i]=wd at *;obtain⟨t,c,f,d⟩:=wd;simp only at d0 d1 d2 d3 q;obtain⟨k,D⟩:∃k,k=(wr.alloc (.cells #[.string t,.string c,.int .i64 f,.int .i64 d] 229)).alloc (.cells #[.int .i64 1,.int .i64 0,.string c,.int .i64 f,.int .i64 d] 174):=⟨_,rfl⟩
   have K5:ab [] wr k:=by rw[D];exact((ab.refl [] _).alloc _).alloc _
   have B5:k.heap[wr.heap.size]?=some (.cells #[.string t,.string c,.int .i64 f,.int .i64 d] 229 (0,0)):=by rw[D];exact((ab.refl [] _).alloc _).get (QR _ _) (by simp)
   have O:k.heap[wr.heap.size+1]?=some (.cells #[.int .i64 1,.int .i64 0,.string c,.int .i64 f,.int .i64 d] 174 (0,0)):=by
    rw[D];have:=QR (wr.alloc (.cells #[.string t,.string c,.int .i64 f,.int .i64 d] 229)) (.cells #[.int .i64 1,.int .i64 0,.string c,.int .i64 f,.int .i64 d] 174);simpa using this
   have ai:=hI D.symm;clear D
   go_upto_region 8 with fail
   rw[ai.out];clear ai d0 d1 d2 d3 t3 U Y z2 z3 yz;have v0:k.cell? ⟨wr.heap.size,0,none⟩=some (.string t):=by rw[aa B5];rfl
   have v1:k.cell? ⟨wr.heap.size,1,none⟩=some (.string c):=by rw[aa B5];rfl
   have v2:k.cell? ⟨wr.heap.size,2,none⟩=some (.int .i64 f):=by rw[aa B5];rfl
   have v3:k.cell? ⟨wr.heap.size,3,none⟩=some (.int .i64 d):=by rw[aa B5];rfl
   have u0:k.cell? ⟨wr.heap.size+1,0,none⟩=some (.int .i64 1):=by rw[aa O];rfl
   have u1:k.cell? ⟨wr.heap.size+1,1,none⟩=some (.int .i64 0):=by rw[aa O];rfl
   have u2:k.cell? ⟨wr.heap.size+1,2,none⟩=some (.string c):=by rw[aa O];rfl
   have u3:k.cell? ⟨wr.heap.size+1,3,none⟩=some (.int .i64 f):=by rw[aa O];rfl
   have u4:k.cell? ⟨wr.heap.size+1,4,none⟩=some (.int .i64 d):=by rw[aa O];rfl
   have yu:=am O;have M:aw k o (go a):=hO.Vf (fun h g=>K5.block h (hO.lt g) (by simp));have R5:=an.Va K5;have F5:=K5.get B1 (by simp);obtain⟨U,Y,z2,z3⟩:=da F5;have yz:=am F5;have R:Hid (ab [] s k):=hK.trans K5;have bc:=ae O
   cases ht:(t.toList == [63])
   ·have a0:(t.toList != [63])=true:=by simp[bne,ht]
    rcases hf:mx l t w with _ | n
    ·have E:Hid (fL l w l[w].fin l[w].proof []=([],(2,⟨c,f,d⟩))):=by show _=_;rw[q.out,ht,hf];simp
     clear q
     go_upto_region 11 with (go_at_call 185;refine(iq x T w t l H _ (by exact R5) (by omega)).mono ?_;rintro e w6 ⟨rfl,X⟩;rw[X,hf];simp only[nz])
     go_region
     all_goals go_wp2
     all_goals exact QX (v:=.tuple #[.slice none 0 0,.agg #[.int .i64 2,.string c,.int .i64 f,.int .i64 d]]) (by simp[results,results139,go_sem,U,Y,z2,z3]) rfl ⟨⟨none,0⟩,by rw[E.out];rfl,by rw[E.out];exact QY _ _ _ _,by intro h g;simp[Hd.blk]at g,(kG (K2.trans R.out) (QQ _) _ _ _ _).drew⟩
    ·have E:Hid (fL l w l[w].fin l[w].proof []=fL l w l[w].fin (l[w].proof.drop (i+1)) (a++[⟨2,n,⟨c,f,d⟩⟩])):=by show _=_;rw[q.out,ht,hf];simp
     clear q;obtain⟨p,B⟩:∃p,p=((((k.setCell ⟨wr.heap.size+1,0,none⟩ (.int .i64 2)).setCell ⟨wr.heap.size+1,1,none⟩ (.int .i64 n)).setCell ⟨wr.heap.size+1,2,none⟩ (.string c)).setCell ⟨wr.heap.size+1,3,none⟩ (.int .i64 f)).setCell ⟨wr.heap.size+1,4,none⟩ (.int .i64 d):=⟨_,rfl⟩
     have al:ab [wr.heap.size+1] k p:=by rw[B];exact((((((ab.refl _ _).setCell (Q0 (by simp)) _).setCell (Q0 (by simp)) _).setCell (Q0 (by simp)) _).setCell (Q0 (by simp)) _).setCell (Q0 (by simp)) _)
     have S6:p.heap[wr.heap.size+1]?=some (.cells #[.int .i64 2,.int .i64 n,.string c,.int .i64 f,.int .i64 d] 174 (0,0)):=by
      rw[B,ah (ah (ah (ah (ah O _ _) _ _) _ _) _ _)];rfl
     have a1:Hid (ab [] s p):=by
      show ab [] s p
      rw[B];exact Qc R.out (by have:=hK.size;omega) _ _ _ _ _
     have P:aw p o (go a):=M.Vf (fun h g=>al.block h (M.lt g) (by simp;rintro rfl;have:=hO.lt g;omega));have af:=hI B.symm;clear B al
     go_upto_region 13 with (go_at_call 185;refine(iq x T w t l H _ (by exact R5) (by omega)).mono ?_;rintro e w6 ⟨rfl,X⟩;rw[X,hf];simp only[nz])
     rw[af.out];clear af u0 u1 u2 u3 u4 yu;have u0:p.cell? ⟨wr.heap.size+1,0,none⟩=some (.int .i64 2):=by rw[aa S6];rfl
     have u1:p.cell? ⟨wr.heap.size+1,1,none⟩=some (.int .i64 n):=by rw[aa S6];rfl
     have u2:p.cell? ⟨wr.heap.size+1,2,none⟩=some (.string c):=by rw[aa S6];rfl
     have u3:p.cell? ⟨wr.heap.size+1,3,none⟩=some (.int .i64 f):=by rw[aa S6];rfl
     have u4:p.cell? ⟨wr.heap.size+1,4,none⟩=some (.int .i64 d):=by rw[aa S6];rfl
     have A:=P.Vf (fun h g=>((ab.refl [] p).alloc (.cells #[.int .i64 2,.int .i64 n,.string c,.int .i64 f,.int .i64 d] 174)).block h (P.lt g) (by simp));have K6:Hid (ab [] s (p.alloc (.cells #[.int .i64 2,.int .i64 n,.string c,.int .i64 f,.int .i64 d] 174))):=ab.alloc a1.out _;clear U Y z2 z3 yz v0 v1 v2 v3;go_wp2_with (at_builtin;refine aM _ rfl (.tmp 47) (.tmp 49) 163 rfl i0 (.agg #[.int .i64 0,.int .i64 0,.string ⟨#[]⟩,.int .i64 0,.int .i64 0]) 48 o (go a) underlying163 ar ag L ax rfl (Uy 4) rfl (by exact A) ⟨_,0,none⟩ 1 1 (lg ⟨2,n,⟨c,f,d⟩⟩) rfl rfl ?e1 (um _) Rb ?e3 ?e4 ?_)
     case e1 =>
      intro j u hj;have hk:(p.alloc (.cells #[.int .i64 2,.int .i64 n,.string c,.int .i64 f,.int .i64 d] 174)).heap[p.heap.size]?=some (.cells #[.int .i64 2,.int .i64 n,.string c,.int .i64 f,.int .i64 d] 174 (0,0)):=QR _ _;rw[bL,aa hk];simpa [lg] using hj
     case e3=>simp only[go];unfold maxLen;omega
     case e4=>simp only[go];omega
     intro g8 F w8 G m b;rw[ug a ⟨2,n,⟨c,f,d⟩⟩]at G;have Z:=(K6.out).grown m hN
     have aS:s.heap.size<=g8:=by
      rcases b with e | e
      ·exact hN g8 e
      ·have:=K6.out.size;simp at e this;omega
     have ac:Hid ((go a).n+1=(a++[(⟨2,n,⟨c,f,d⟩⟩:nE)]).length):=by show _=_;simp[go]
     rw[ac.out];clear m b A;go_wp2
     go_roundg (l[w].proof.length-(i+1))
     case measure=>omega
     case rel=>exact⟨i+1,a++[⟨2,n,⟨c,f,d⟩⟩],⟨some ⟨g8,0,none⟩,F⟩,by omega,rfl,by go_num,rfl,by simp;omega,E,G,by intro h g;simp[Hd.blk]at g;omega,Z⟩
   ·have a0:(t.toList != [63])=false:=by simp[bne,ht]
    have E:Hid (fL l w l[w].fin l[w].proof []=fL l w l[w].fin (l[w].proof.drop (i+1)) (a++[⟨1,0,⟨c,f,d⟩⟩])):=by show _=_;rw[q.out,ht];simp
    clear q;have A:=M.Vf (fun h g=>((ab.refl [] k).alloc (.cells #[.int .i64 1,.int .i64 0,.string c,.int .i64 f,.int .i64 d] 174)).block h (M.lt g) (by simp));have K6:Hid (ab [] s (k.alloc (.cells #[.int .i64 1,.int .i64 0,.string c,.int .i64 f,.int .i64 d] 174))):=ab.alloc R.out _;clear U Y z2 z3 yz
    go_upto_region 13 with fail
    clear v0 v1 v2 v3;go_wp2_with (at_builtin;refine aM _ rfl (.tmp 47) (.tmp 49) 163 rfl i0 (.agg #[.int .i64 0,.int .i64 0,.string ⟨#[]⟩,.int .i64 0,.int .i64 0]) 48 o (go a) underlying163 ar ag L ax rfl (Uy 4) rfl (by exact A) ⟨_,0,none⟩ 1 1 (lg ⟨1,0,⟨c,f,d⟩⟩) rfl rfl ?e1 (um _) Rb ?e3 ?e4 ?_)
    case e1 =>
     intro j u hj;have hk:(k.alloc (.cells #[.int .i64 1,.int .i64 0,.string c,.int .i64 f,.int .i64 d] 174)).heap[k.heap.size]?=some (.cells #[.int .i64 1,.int .i64 0,.string c,.int .i64 f,.int .i64 d] 174 (0,0)):=QR _ _;rw[bL,aa hk];simpa [lg] using hj
    case e3=>simp only[go];unfold maxLen;omega
    case e4=>simp only[go];omega
    intro g8 F w8 G m b;rw[ug a ⟨1,0,⟨c,f,d⟩⟩]at G;have Z:=(K6.out).grown m hN
    have aS:s.heap.size<=g8:=by
     rcases b with e | e
     ·exact hN g8 e
     ·have:=K6.out.size;simp at e this;omega
    have ac:Hid ((go a).n+1=(a++[(⟨1,0,⟨c,f,d⟩⟩:nE)]).length):=by show _=_;simp[go]
    rw[ac.out];clear m b A;go_wp2
    go_roundg (l[w].proof.length-(i+1))
    case measure=>omega
    case rel=>exact⟨i+1,a++[⟨1,0,⟨c,f,d⟩⟩],⟨some ⟨g8,0,none⟩,F⟩,by omega,rfl,by go_num,rfl,by simp;omega,E,G,by intro h g;simp[Hd.blk]at g;omega,Z⟩
  ·have E:Hid (fL l w l[w].fin l[w].proof []=if a.length=0 then([],(1,l[w].fin)) else(a,cY)):=hR.out.trans (IX l w l[w].fin i l[w].proof a S)
   have t3:wr.cell? ⟨Q.heap.size,3,none⟩=some (.slice AO l[w].proof.length (H (11+2*w)).cap):=by rw[aa B2,I.out];rfl
   have t4:wr.cell? ⟨Q.heap.size,4,none⟩=some (.string l[w].fin.file):=by rw[aa B2,I.out];rfl
   have t5:wr.cell? ⟨Q.heap.size,5,none⟩=some (.int .i64 l[w].fin.line):=by rw[aa B2,I.out];rfl
   have t6:wr.cell? ⟨Q.heap.size,6,none⟩=some (.int .i64 l[w].fin.col):=by rw[aa B2,I.out];rfl
   clear hR N
   by_cases hz:a.length=0
   ·have L:((a.length:Int)==0)=true:=by simp[hz]
    have C:Hid (fL l w l[w].fin l[w].proof []=([],(1,l[w].fin))):=by show _=_;rw[E.out,QV hz]
    clear E hz
    go_upto_region 15 with fail
    go_region
    all_goals go_wp2
    all_goals exact QX (v:=.tuple #[.slice none 0 0,.agg #[.int .i64 1,.string l[w].fin.file,.int .i64 l[w].fin.line,.int .i64 l[w].fin.col]]) (by simp[results,results139,go_sem,U,Y,z2,z3]) rfl ⟨⟨none,0⟩,by rw[C.out];rfl,by rw[C.out];exact QY _ _ _ _,by intro h g;simp[Hd.blk]at g,(kG KW (QQ _) _ _ _ _).drew⟩
   ·have L:((a.length:Int)==0)=false:=Rg.2 (by omega)
    have C:Hid (fL l w l[w].fin l[w].proof []=(a,cY)):=by show _=_;rw[E.out,QS hz]
    clear E hz;go_wp2
    exact QX (v:=.tuple #[.slice o.ao a.length o.cap,.agg #[.int .i64 0,.string ⟨#[]⟩,.int .i64 0,.int .i64 0]]) (by simp[results,results139,go_sem,U,Y,z2,z3]) rfl
     ⟨o,by rw[C.out];rfl,by rw[C.out];exact hO.Vf (fun h g=>(ji (r:=y.heap.size) _ _ _ _).block h (hO.lt g) (by simp;rintro rfl;have:=hN _ g;omega)),fun h g=>Q1 az (hN h g),kG KW (QQ _) _ _ _ _⟩
def tC:List (ByteArray×Pl)->me->pv×me
 | [],c=>(cY,c)
 | (t,p) :: r,c=>if((mS t p c).1.1==0)=true then tC r (mS t p c).2 else mS t p c
def Gx(f:pv)(ws:List (ByteArray×Pl))(c:me):pv×me:=if(f.1==0)=true then tC ws c else(f,c)
theorem Pk(c:me)(i:Nat)(a:i<H.length)(h:(L.1==0)=true):Gx L (H.drop i) c=Gx (mS H[i].1 H[i].2 c).1 (H.drop (i+1)) (mS H[i].1 H[i].2 c).2:=by
 unfold Gx;rw[QV h,Re a];rfl
theorem NP(c:me)(i:Nat)(a:¬i<H.length)(h:(L.1==0)=true):Gx L (H.drop i) c=(cY,c):=by
 unfold Gx;rw[QV h,R6 (by omega)];rfl
theorem Gy(c:me)(h:(L.1==0)=false):Gx L H c=(L,c):=by
 unfold Gx;rw[QS (by rw[h];simp)]
theorem yh:(dD i o n T H d).1.1<=T+H.length/\(dD i o n T H d).2.length<=d.length+H.length:=by
 induction H generalizing T d with
 | nil=>simp[dD]
 | cons x r a =>
  obtain⟨t,p⟩:=x;rw[dD]
  split
  ·simp
  ·split
   ·simp
   ·split
    ·simp
    ·next b _ _=>have:=a (T+1) (d++[b]);simp at this ⊢;omega
theorem gu.mono{c:me}{M:Nat}(h:gu c l)(k:l<=M):gu c M:=⟨Q1 h.names k,Q1 h.tagged k,Q1 h.steps k,by have:=h.Vc;omega,h.behind⟩
theorem FG:∀(j:Nat) (c:me) (N:Nat),gu c (N+j)->j<=v.size->gu (iQ v n w j c).2 (N+v.size):=by
 induction w with
 | zero=>intro j c N h b;exact h.mono (by omega)
 | succ w e =>
  intro j c N h b;rw[iQ]
  split
  ·next d =>
   have a:=h.letter (aF v j).toNat { n with col:=n.col+j }
   split
   ·exact e (j+1) _ N (by rw[<-U0];exact a) (by omega)
   ·exact a.mono (by omega)
  ·exact h.mono (by omega)
theorem zp{c:me}(h:gu c l):gu (mS v n c).2 (l+v.size):=FG v n _ 0 c l h (Rn _)
def kp(ws:List (ByteArray×Pl)):Nat:=(ws.map (fun x=>x.1.size)).sum
theorem Fb(a:w<H.length):kp (H.drop w)=H[w].1.size+kp (H.drop (w+1)):=by
 have e:=Re a;simp only[kp];rw[e];rfl
theorem C0:kp (H.drop w)<=kp H:=by
 induction w generalizing H with
 | zero=>simp
 | succ w a =>
  cases H with
  | nil=>simp
  | cons x r=>have:=a r;simp[kp]at this ⊢;omega
structure x9(s:St):Prop where
 size:kp s.proof<=1000000
 col:∀x∈s.proof,-1000000000<=x.2.col/\x.2.col<=1000000000
def F7(l:List St)(a:Nat)(s:St):pv×me :=
 Gx (dD l a s.fin 1 (s.proof.drop 1) (aK l a)).1.2 (s.proof.drop (dD l a s.fin 1 (s.proof.drop 1) (aK l a)).1.1) ⟨(dD l a s.fin 1 (s.proof.drop 1) (aK l a)).2,[],[],0,false⟩
def uE(fin:Pl)(R:pv×me):List nE×pv :=
 if(R.1.1==0)=true then
  (if R.2.Vc=0 then(if R.2.steps.length=0 then([],(1,fin)) else(R.2.steps,cY)) else([],(4,fin)))
 else([],R.1)
def lJ(l:List St)(a:Nat)(s:St):List nE×pv:=uE s.fin (F7 l a s)
def xJ(hd:Hd):Nat->Hd
 | 0=>hd
 | _+1=>⟨none,0⟩
theorem Nd{cs:List Value}{rows:Nat->dN}(o:aw f D (rows 0))(n:∀i,aw (f.alloc (.cells cs.toArray l)) ⟨none,0⟩ (rows (i+1))):a8 (f.alloc (.cells cs.toArray l)) f.heap.size l cs rows (xJ D):=by
 refine⟨QR _ _,?_,?_,?_⟩
 ·intro i
  cases i with
  | zero=>exact o.Vf (fun x b=>((ab.refl [] f).alloc _).block x (o.lt b) (by simp))
  | succ i=>exact n i
 ·intro i j a
  cases i with
  | zero =>
   cases j with
   | zero=>exact absurd rfl a
   | succ j =>
    have c:(xJ D (j+1)).blk=none:=rfl;rw[c,show xJ D 0=D from rfl]
    cases h:D.blk with
    | none=>exact Q0 rfl
    | some x=>right;simp
  | succ i=>left;rfl
 ·intro i
  cases i with
  | zero=>intro e;have:=o.lt e;omega
  | succ i=>intro e;simp[xJ,Hd.blk]at e
theorem NO(h:f9 (xJ D) l):D.blk=some l:=by
 obtain⟨i,a⟩:=h
 cases i with
 | zero=>exact a
 | succ i=>simp[xJ,Hd.blk]at a
def xY(p:Pl):Prop:=(-1000000000<=p.col/\p.col<=1000000000)/\Km p
structure Gd(d:Db)(m:Nat):Prop where
 bnd:nD d m
 now:kp d.proof<=m/\∀x∈d.proof,xY x.2
 sts:∀s∈d.sts,0<s.U5.length/\s.U5.length<=m/\s.proof.length<=m/\kp s.proof<=m/\(∀x∈s.proof,xY x.2)/\xY s.fin
theorem Fc(x:ByteArray×Pl):kp (H++[x])=kp H+x.1.size:=by
 simp[kp]
theorem EA{s:St}(h:s∈gy I l):∃s'∈I,s.U5=s'.U5/\s.proof=s'.proof/\s.fin=s'.fin:=by
 unfold gy fD at h;rw[List.mem_mapIdx]at h;obtain⟨i,a,rfl⟩:=h;refine⟨I[i],Ra a,?_⟩
 split
 ·unfold lL;split <;> exact⟨rfl,rfl,rfl⟩
 ·exact⟨rfl,rfl,rfl⟩
theorem Gd.take{d:Db}(h:Gd d l)(x:ByteArray)(p:Pl)(n:Nat)(B:x.size<=n)(A:1<=n)(j:xY p):Gd (aX d x p).2 (l+n):=by
 have w:=(h.bnd.take x p).mono (m':=l+n) (by omega);have z:=h.bnd.proof;have u:=h.bnd.U7;refine⟨w,?_,?_⟩
 ·rcases Fq d x p with e | e | e
  ·rw[e];exact⟨by have:=h.now.1;omega,h.now.2⟩
  ·rw[e];exact⟨by simp[kp],by simp⟩
  ·rw[e]
   refine⟨by rw[Fc];have:=h.now.1;simp only;omega,fun y b=>?_⟩
   rcases Rq.1 b with b | b
   ·exact h.now.2 y b
   ·rw[Q8.1 b];exact j
 ·rcases Da d x p with e | ⟨y,_,e⟩ | ⟨e,c⟩
  ·rw[e]
   intro s a;obtain⟨f,k,o,m,g⟩:=h.sts s a;exact⟨f,by omega,by omega,by omega,g⟩
  ·rw[e]
   intro s a;obtain⟨q,i,r,t,v⟩:=EA a;obtain⟨f,k,o,m,g⟩:=h.sts q i;rw[r,t,v];exact⟨f,by omega,by omega,by omega,g⟩
  ·rw[e]
   intro s a
   rcases Rq.1 a with a | a
   ·obtain⟨f,k,o,m,g⟩:=h.sts s a
    exact⟨f,by omega,by omega,by omega,g⟩
   ·rw[Q8.1 a]
    exact⟨c,by simp only;omega,by simp only;omega,by have:=h.now.1;simp only;omega,h.now.2,j⟩
theorem Gd.empty:Gd fm 0:=⟨nD.empty,by simp[fm,kp],by simp[fm]⟩
theorem xc(c:w<=S.size):(bC S w).1.text.size<=(bC S w).2-w/\(bC S w).1.pos<=S.size:=by
 have a:=Az S w c;have b:=rP S (skip S w) a.2;unfold bC;simp only
 split
 ·exact⟨by simp[ByteArray.size],b.2⟩
 ·split
  ·exact⟨by simp[ByteArray.size],by simp only;omega⟩
  ·refine⟨?_,by simp only;omega⟩
   simp only[Tv];omega
theorem vP(a:w<=S.size):(aW S w).1.pos<=S.size:=by
 unfold aW;generalize S.size-w+1=f
 induction f generalizing w with
 | zero=>simp[bX,a]
 | succ f d =>
  have b:=(xc S w a).2;have c:=gq S w a;rw[bX]
  split
  ·split
   ·exact b
   ·exact d (bC S w).2 c.2.1
  ·split
   ·exact b
   ·exact b
theorem EG(a:w<=S.size):(aI (ay S w).1=true->(ay S w).1.text.size<=(ay S w).2-w)/\(ay S w).1.pos<=S.size:=by
 unfold ay;generalize S.size-w+1=f
 induction f generalizing w with
 | zero=>exact⟨fun h=>by simp[dH,aI]at h,by simp[dH,a]⟩
 | succ f g =>
  have b:=xc S w a;have c:=gq S w a;rw[dH]
  split
  ·have e:=i9 S (bC S w).2 c.2.1
   have i:=vP S (bC S w).2 c.2.1
   split
   ·have:=g _ e.2
    exact⟨fun h=>by have:=this.1 h;omega,this.2⟩
   ·next d=>exact⟨fun h=>absurd h d,i⟩
  ·exact⟨fun _=>b.1,b.2⟩
theorem KU(b:w<=1024):xY (kJ v S w):=by
 have a:=zJ S w;have c:=Ag S w;unfold xY Km kJ;simp only;omega
def MY(fs:Fs)(bg:List Bool)(m:Nat)(r:FN):Prop :=
 r.2.1.length=4/\dP fs r.2.1<=dP fs bg/\∃m',Gd r.2.2 m'/\m'+dP fs r.2.1<=m+dP fs bg
theorem Ic(a:∀j,j<b.length->(ak b j).size<=1024)(x:Nat):(ak b x).size<=1024:=by
 rcases UQ x b.length with h | h
 ·exact a x h
 ·have:(ak b x).size=0:=by unfold ak;rw[QP,Rv h];rfl
  omega
theorem JQ(n:∀j,j<b.length->(ak b j).size<=1024)(f:Nat)(y:∀j a d m,a.length=4->Gd d m->MY b a m (cn b f j a d))(x k:Nat)(a:List Bool)(d:Db)(m:Nat)(p:k<=(ak b x).size)(h:a.length=4)(g:Gd d m)(q:aI (ay (ak b x) k).1=true) :
  MY b a (m+((ay (ak b x) k).2-k)) (fZ b f x k a d).1/\(ay (ak b x) k).2<=(fZ b f x k a d).2/\(fZ b f x k a d).2<=(ak b x).size:=by
 have e:=fG (ak b x) k p;have s:=e.2.2 q;have w:=EG (ak b x) k p;have l:=Ic b n x;unfold fZ jN
 split
 ·unfold mW
  split
  ·exact⟨⟨h,QQ _,m,g,by simp only;omega⟩,QQ _,e.2.1⟩
  ·next j A c =>
   have i:=y j a d m h g;refine⟨⟨i.1,i.2.1,?_⟩,?_⟩
   ·obtain⟨r,t,z⟩:=i.2.2;exact⟨r,t,by simp only;omega⟩
   ·unfold ru at c
    have v:=fG (ak b x) (ay (ak b x) k).2 e.2.1;have B:=fG (ak b x) (ay (ak b x) (ay (ak b x) k).2).2 v.2.1
    repeat' split at c
    all_goals first | (cases c;done) | skip
    injection c with c
    injection c with u o
    subst o;omega
 ·refine⟨⟨h,QQ _,m+((ay (ak b x) k).2-k),g.take _ _ _ (w.1 q) (by omega) (KU _ _ _ (by omega)),by simp only;omega⟩,QQ _,e.2.1⟩
theorem Nt(q:∀j,j<b.length->(ak b j).size<=1024)(f:Nat):(∀x k a d m,k<=(ak b x).size->a.length=4->Gd d m->(bq b f x k a d).2.1.length=4/\dP b (bq b f x k a d).2.1<=dP b a/\∃e,Gd (bq b f x k a d).2.2 e/\e+dP b (bq b f x k a d).2.1<=m+((ak b x).size-k)+dP b a) /\
  (∀j a d m,a.length=4->Gd d m->MY b a m (cn b f j a d)):=by
 have c:∀f,(∀x k a d m,k<=(ak b x).size->a.length=4->Gd d m->(bq b f x k a d).2.1.length=4/\dP b (bq b f x k a d).2.1<=dP b a/\∃e,Gd (bq b f x k a d).2.2 e/\e+dP b (bq b f x k a d).2.1<=m+((ak b x).size-k)+dP b a) ->
   (∀j a d m,a.length=4->Gd d m->MY b a m (cn b f j a d)):=by
  intro f h j a d m g i;unfold cn
  split
  ·exact⟨g,QQ _,m,i,QQ _⟩
  ·next F =>
   have p:a.getD j true=false:=by simpa using F
   have L:=wF b a j g p;have:=h j 0 (a.set j true) d m (Rn _) (by simpa using g) i;refine⟨this.1,by omega,?_⟩;obtain⟨e,z,H⟩:=this.2.2;exact⟨e,z,by omega⟩
 induction f with
 | zero =>
  have v:∀x k a d m,k<=(ak b x).size->a.length=4->Gd d m->(bq b 0 x k a d).2.1.length=4/\dP b (bq b 0 x k a d).2.1<=dP b a/\∃e,Gd (bq b 0 x k a d).2.2 e/\e+dP b (bq b 0 x k a d).2.1<=m+((ak b x).size-k)+dP b a:=by
   intro x k a d m o g i;exact⟨g,QQ _,m,i,by simp only[bq];omega⟩
  exact⟨v,c 0 v⟩
 | succ f t =>
  have s:∀x k a d m,k<=(ak b x).size->a.length=4->Gd d m->(bq b (f+1) x k a d).2.1.length=4/\dP b (bq b (f+1) x k a d).2.1<=dP b a/\∃e,Gd (bq b (f+1) x k a d).2.2 e/\e+dP b (bq b (f+1) x k a d).2.1<=m+((ak b x).size-k)+dP b a:=by
   intro x k a d m o g i
   cases n:aI (ay (ak b x) k).1 with
   | true =>
    have G:=fG (ak b x) k o;have C:=JQ b q f t.2 x k a d m o g i n;obtain⟨⟨w,y,r,u,I⟩,J,B⟩:=C
    cases l:((fZ b f x k a d).1.1.1==0) with
    | true =>
     rw[yB b f x k a d n l];obtain⟨A,K,E,D,M⟩:=t.1 x (fZ b f x k a d).2 (fZ b f x k a d).1.2.1 (fZ b f x k a d).1.2.2 r B w u;exact⟨A,by omega,E,D,by omega⟩
    | false =>
     rw[ov b f x k a d n l];exact⟨w,y,r,u,by omega⟩
   | false =>
    by_cases l:(ay (ak b x) k).1.fin=true/\ko d=false
    ·rw[zU b f x k a d n l.1 l.2];exact⟨g,QQ _,m,i,by simp only;omega⟩
    ·rw[wj b f x k a d n l];exact⟨g,QQ _,m,i,by simp only;omega⟩
  exact⟨s,c (f+1) s⟩
def PM(l:List St):Prop:=∀s∈l,Km s.fin/\∀x∈s.proof,Km x.2
structure Qr(l:List St):Prop where
 ok:iH l
 prf:∀i (hi:i<l.length),x9 l[i]
 lns:PM l
theorem wS(d:∀j,j<b.length->(ak b j).size<=1024)(k:Nat):Qr (bK b k).2.2.sts:=by
 obtain⟨_,_,m,c,h⟩:=(Nt b d 5000).2 k FZ fm 0 rfl Gd.empty;have l:=Aj b d FZ;have g:m<=4104:=by omega
 have n:=c.bnd.sts;unfold bK;refine⟨⟨by omega,fun i a=>?_,fun i a=>?_,fun i a=>?_⟩,fun i a=>⟨?_,?_⟩,?_⟩
 ·exact(c.sts _ (Ra a)).1
 ·have:=(c.sts _ (Ra a)).2.1;omega
 ·have:=(c.sts _ (Ra a)).2.2.1;omega
 ·have:=(c.sts _ (Ra a)).2.2.2.1;omega
 ·exact fun x e=>((c.sts _ (Ra a)).2.2.2.2.1 x e).1
 ·exact fun s f=>⟨(c.sts s f).2.2.2.2.2.2,fun x e=>((c.sts s f).2.2.2.2.1 x e).2⟩
end Go.Proofs.YtpddjjabfbfifaaGreat
