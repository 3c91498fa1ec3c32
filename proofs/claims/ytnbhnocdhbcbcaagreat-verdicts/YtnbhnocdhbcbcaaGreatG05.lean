import Derived.BigQuiet
import Derived.Deep.RegionHeld3
import Derived.Test.YtnbhnocdhbcbcaaGreatG04
namespace Go.Proofs.YtnbhnocdhbcbcaaGreat
open Go.RowKit Tryz
open Value IntKind Ending
set_option maxHeartbeats 0
variable{a:World}{k D:Nat}{L I:List Value}{o:Db}{i N:Nat->Hd}(f T H:Nat)(n S:List Value)(w:Db)(l:Nat->Hd)(v b:ByteArray)(y x:Int)(d:World)(g:List (ByteArray×Pl))
theorem Gg:∀u∈nY g,u.oneCell'=true:=by
 intro u a;simp only[nY,List.mem_flatMap]at a;obtain⟨p,_,a⟩:=a;simp only[rF,List.mem_cons,List.not_mem_nil,or_false]at a;rcases a with rfl | rfl | rfl | rfl <;> rfl
theorem O6(s:St)(a b:Hd):∀u∈Kk s a b,u.oneCell'=true:=by
 intro u c;simp only[Kk,List.mem_cons,List.not_mem_nil,or_false]at c;rcases c with rfl | rfl | rfl | rfl | rfl | rfl | rfl | rfl <;> rfl
set_option maxRecDepth 100000
theorem su(k C:ByteArray)(D c:Int)(a:World)(h:aV a f T n S w l)(ho:n.length=H)(hs:ge w 100000000) :
  Calls prog 269 #[pointer (some ⟨f,H+6,none⟩),agg #[int i64 x,string k,slice (l 8).ao w.We.length (l 8).cap,slice (l 9).ao w.Wp.length (l 9).cap,string C,int i64 D,int i64 c,int i64 0]] a fun e w' =>
   e=returned (tuple #[])/\∃Y,aV w' f T n S { w with Wv:=w.Wv++[⟨x,k,w.We,w.Wp,⟨C,D,c⟩,0⟩] } Y/\aB f a l w' Y/\∀j,j<10->j≠6->Y j=l j:=by
 obtain⟨i0,hi,a7,az,ba⟩:=Sr lA;obtain⟨i1,ap,a5,ax,a6⟩:=Sr Pw;obtain⟨i2,a1,a2,a3,a4⟩:=Sr QS;have bj:=hs.We;have bk:=hs.Wp;have bg:=hs.Wv;have m1:=fun a=>dH (P:=prog) a 61 9 i0 _ underlying61 hi a7 w.We.length 1 az (by rw[ba];omega) (by omega);have m2:=fun a=>dH (P:=prog) a 156 229 i1 _ underlying156 ap a5 w.Wp.length 4 ax (by rw[a6];omega) (by omega);obtain⟨A,t⟩:∃mc,mc=madeCells (string ⟨#[]⟩).cells (w.We.length*1):=⟨_,rfl⟩
 obtain⟨L,z⟩:∃mc,mc=madeCells (agg #[string ⟨#[]⟩,string ⟨#[]⟩,int i64 0,int i64 0]).cells (w.Wp.length*4):=⟨_,rfl⟩
 have z1:A.size=w.We.length*1:=by rw[t,TO]
 have z2:L.size=w.Wp.length*4:=by rw[z,TO]
 rw[<-t]at m1;rw[<-z]at m2;clear t z;obtain⟨bx,m⟩:∃bx:Array Value,bx=#[int i64 x,string k,slice (l 8).ao w.We.length (l 8).cap,slice (l 9).ao w.Wp.length (l 9).cap,string C,int i64 D,int i64 c,int i64 0]:=⟨_,rfl⟩
 obtain⟨M,p⟩:∃M,M=(a.alloc (.cells #[int i64 x,string k,slice (l 8).ao w.We.length (l 8).cap,slice (l 9).ao w.Wp.length (l 9).cap,string C,int i64 D,int i64 c,int i64 0] 158)).alloc (.cells A 9):=⟨_,rfl⟩
 have K2:aa [] a M:=by rw[p];exact((aa.refl [] _).alloc _).alloc _
 have D2:=h.Wj K2;have Z2:M.heap.size=a.heap.size+2:=by rw[p];simp
 have B2:M.heap[a.heap.size]?=some (.cells bx 158):=by
  rw[p,m];exact((aa.refl [] _).alloc _).get (R2 _ _) (by simp)
 have G2:M.heap[a.heap.size+1]?=some (.cells A 9):=by
  rw[p];have:=R2 (a.alloc (.cells #[int i64 x,string k,slice (l 8).ao w.We.length (l 8).cap,slice (l 9).ao w.Wp.length (l 9).cap,string C,int i64 D,int i64 c,int i64 0] 158)) (.cells A 9);simpa using this
 have ac:Hid _:=p.symm;have be:=h.lt;have ag:Hid ((prog.info? (aG w.We).e).map (·.size)=some (aG w.We).size):=by show _=_;simp[aG,hi,az]
 have ai:Hid ((prog.info? (ic w.Wp).e).map (·.size)=some (ic w.Wp).size):=by show _=_;simp[ic,ap,ax]
 clear p;go_enter func269,ntmps269;go_upto_region 2 with fail
 rw[ac.out];have b2:M.cell? ⟨a.heap.size,2,none⟩=some (slice (l 8).ao w.We.length (l 8).cap):=by rw[aj B2,m];rfl
 clear ac m1;obtain⟨w3,al,O,R,K⟩:=qD (P:=prog) M 61 61 3 (a.heap.size+1) w.We.length (l 8) (aG w.We) A 9 underlying61 ag.out G2 (D2.own 8) z1 (mw _);simp only[aG]at al O;have K3:aa [] a w3:=((K2.mono (S':=[a.heap.size+1]) (by simp)).trans R).mono (by simp);have B3:=R.get B2 (by simp);rw[Z2]at K;have b3:w3.cell? ⟨a.heap.size,3,none⟩=some (slice (l 9).ao w.Wp.length (l 9).cap):=by rw[aj B3,m];rfl
 clear G2 B2 D2 R K2;obtain⟨N,q⟩:∃N,N=w3.alloc (.cells L 229):=⟨_,rfl⟩
 have K4:aa [] a N:=by rw[q];exact K3.alloc _
 have U:=fN q.symm;have D4:=h.Wj K4;have B4:=U.get B3 (by simp);have S4:=U.get O (by simp);have G4:N.heap[a.heap.size+2]?=some (.cells L 229):=by rw[q,<-K];exact R2 _ _
 have ad:Hid _:=q.symm;have Z4:N.heap.size=a.heap.size+3:=by rw[q];simp[K]
 clear q U;go_upto_region 4 with fail
 clear al b2;rw[ad.out];have b4:N.cell? ⟨a.heap.size,3,none⟩=some (slice (l 9).ao w.Wp.length (l 9).cap):=by rw[aj B4,m];rfl
 clear ad m2 b3;obtain⟨X,an,Q,I,bc⟩:=qD (P:=prog) N 156 156 3 (a.heap.size+2) w.Wp.length (l 9) (ic w.Wp) L 229 underlying156 ai.out G4 (D4.own 9) z2 (Gg _);simp only[ic]at an Q;have K5:aa [] a X:=((K4.mono (S':=[a.heap.size+2]) (by simp)).trans I).mono (by simp);have W:=I.get B4 (by simp);have S5:=I.get S4 (by simp);rw[Z4]at bc;clear G4 B4 D4 I K4 S4;have aS:X.cell? ⟨a.heap.size,2,none⟩=some (slice (l 8).ao w.We.length (l 8).cap):=by rw[aj W,m];rfl
 have aT:X.cell? ⟨a.heap.size,3,none⟩=some (slice (l 9).ao w.Wp.length (l 9).cap):=by rw[aj W,m];rfl
 have a0:X.cell? ⟨a.heap.size,7,none⟩=some (int i64 0):=by rw[aj W,m];rfl
 have fx:=am W;obtain⟨B,s⟩:∃B,B=((X.setCell ⟨a.heap.size,2,none⟩ (slice (some ⟨a.heap.size+1,0,none⟩) w.We.length w.We.length)).setCell ⟨a.heap.size,3,none⟩ (slice (some ⟨a.heap.size+2,0,none⟩) w.Wp.length w.Wp.length)).setCell ⟨a.heap.size,7,none⟩ (int i64 0):=⟨_,rfl⟩
 have af:Hid _:=s.symm;have K8:aa [] a B:=by rw[s];exact((K5.setCell (RZ (RV _)) _).setCell (RZ (RV _)) _).setCell (RZ (RV _)) _
 have V:aa [a.heap.size] X B:=by rw[s];exact(((aa.refl _ _).setCell (R4 (by simp)) _).setCell (R4 (by simp)) _).setCell (R4 (by simp)) _
 have B8:B.heap[a.heap.size]?=some (.cells (Kk ⟨x,k,w.We,w.Wp,⟨C,D,c⟩,0⟩ ⟨some ⟨a.heap.size+1,0,none⟩,w.We.length⟩ ⟨some ⟨a.heap.size+2,0,none⟩,w.Wp.length⟩).toArray 158):=by
  rw[s,ah (ah (ah W _ _) _ _),m];rfl
 have S8:=V.get S5 (by simp);have P8:=V.get Q (by simp);clear s V S5 Q W;go_upto_region 8 with fail
 rw[af.out];clear af an aS aT a0 fx b4 K5 m O K B3 K3;have y:=fun j v (hv:(Kk ⟨x,k,w.We,w.Wp,⟨C,D,c⟩,0⟩ ⟨some ⟨a.heap.size+1,0,none⟩,w.We.length⟩ ⟨some ⟨a.heap.size+2,0,none⟩,w.Wp.length⟩)[j]?=some v)=>(aj B8 j).trans (by simpa using hv);have y0:=y 0 _ rfl;have y1:=y 1 _ rfl;have y2:=y 2 _ rfl;have y3:=y 3 _ rfl;have y4:=y 4 _ rfl;have y5:=y 5 _ rfl;have y6:=y 6 _ rfl;have y7:=y 7 _ rfl;simp only at y0 y1 y2 y3 y4 y5 y6 y7;clear y;have D8:=h.Wj K8;have q6:=D8.cellAt H ho 6 (by omega);simp only[cr,List.getElem?_cons_succ,List.getElem?_cons_zero]at q6;have bf:=D8.free;have bd:=D8.lt;obtain⟨b,i⟩:∃b:List Value,b=Kk ⟨x,k,w.We,w.Wp,⟨C,D,c⟩,0⟩ ⟨some ⟨a.heap.size+1,0,none⟩,w.We.length⟩ ⟨some ⟨a.heap.size+2,0,none⟩,w.Wp.length⟩:=⟨_,rfl⟩
 obtain⟨E,F⟩:∃E,E=(B.alloc (.cells #[int i64 x,string k,slice (some ⟨a.heap.size+1,0,none⟩) w.We.length w.We.length,slice (some ⟨a.heap.size+2,0,none⟩) w.Wp.length w.Wp.length,string C,int i64 D,int i64 c,int i64 0] 158)).drew:=⟨_,rfl⟩
 have K9:aa [] B E:=by rw[F];exact((aa.refl [] _).alloc _).drew
 have G9:E.heap[B.heap.size]?=some (.cells b.toArray 158):=by rw[F,i];exact R2 _ _
 have O1:aC E ⟨some ⟨a.heap.size+1,0,none⟩,w.We.length⟩ (aG w.We):=aC.made (r:=aG w.We) (K9.get S8 (by simp)) (Du _) (by simp only[aG];unfold maxLen;omega);have O2:aC E ⟨some ⟨a.heap.size+2,0,none⟩,w.Wp.length⟩ (ic w.Wp):=aC.made (r:=ic w.Wp) (K9.get P8 (by simp)) (Gf _) (by simp only[ic];unfold maxLen;omega);have D9:Hid (aV E f T n S w l):=D8.Wj K9;have s2:Hid (∀j u,b[j]?=some u->E.cell? ((⟨B.heap.size,0,none⟩:Addr).add j)=some u):=by
  intro j u hj;rw[bS,aj G9];simpa using hj
 have s3:Hid (∀u∈b,u.oneCell'=true):=by rw[i];exact O6 _ _ _
 have s4:Hid ((iW w.Wv l).n+1<=maxLen):=by show _<=_;simp only[iW];unfold maxLen;omega
 have s5:Hid (((iW w.Wv l).n+1)*112<=140737488355328):=by show _<=_;simp only[iW];omega
 have AF:=fun(g o:Nat) (w1:World) (J:aC w1 ⟨some ⟨g,0,none⟩,o⟩ ⟨(iW w.Wv l).e,(iW w.Wv l).size,(iW w.Wv l).n+1,(iW w.Wv l).xs++b⟩) G d=>h.addst (K8.trans K9) ho ⟨x,k,w.We,w.Wp,⟨C,D,c⟩,0⟩ ⟨some ⟨a.heap.size+1,0,none⟩,w.We.length⟩ ⟨some ⟨a.heap.size+2,0,none⟩,w.Wp.length⟩ (a.heap.size+1) (a.heap.size+2) rfl rfl (by omega) (by omega) (by omega) O1 O2 g o (w1:=w1) (by rw[<-i];exact J) G d;have Z:Hid _:=AF;have ar:Hid (b.length=1*(iW w.Wv l).size):=by show _=_;rw[i];rfl
 rw[F]at D9 s2 Z;clear AF O1 O2 G9 K9 F E i P8 S8 B8;go_region_law (refine cO rfl (.tmp 31) (.tmp 33) 74 rfl i2 (agg #[int i64 0,string ⟨#[]⟩,slice none 0 0,slice none 0 0,string ⟨#[]⟩,int i64 0,int i64 0,int i64 0]) 112 (l 6) (iW w.Wv l) underlying74 a1 a2 a3 a4 rfl (Vh 7) (by simp[Act.eval] <;> rfl) (D9.out.own 6) ⟨B.heap.size,0,none⟩ 1 1 b (by simp[Act.eval]) ar.out s2.out s3.out So s4.out s5.out ?_;intro g o w1 J G d;obtain⟨k5,f5,HP⟩:=Z.out g o w1 J G (by simpa using d);clear J G d)
 all_goals go_wp2
 all_goals go_end0
 all_goals
  obtain⟨Y,P1,P2,P3⟩:=HP.out;exact⟨rfl,Y,P1,P2,P3⟩
def nc(d:Db)(p:Pl):Db:={ d with Wv:=d.Wv++[⟨d.kind,d.label,d.We,d.Wp,p,0⟩] }
def nC(d:Db):Db:=if(d.kind==2)=true/\1<d.We.length then { d with Wq:=d.Wq++[d.We.getD 1 ⟨#[]⟩] } else d
def aW(d:Db)(p:Pl):Db :=
 if(d.kind==7)=true then { d with Wg:=d.Wg++d.We }
 else if(d.kind==8)=true then dW d d.We.length
 else nc (nC d) p
theorem zX{b:Nat}(e:aV a k D L I o i)(j:L.length=b)(f:i 8=N 8)(g:i 9=N 9) :
  a.cell? ⟨k,b+8,none⟩=some (int i64 o.kind)/\a.cell? ⟨k,b+9,none⟩=some (string o.label)/\a.cell? ⟨k,b+10,none⟩=some (slice (N 8).ao o.We.length (N 8).cap)/\a.cell? ⟨k,b+12,none⟩=some (slice (N 9).ao o.Wp.length (N 9).cap):=by
 obtain⟨p,q,r,s,t,u,v,w,m,n,c,l,d⟩:=e.cells b j;rw[f]at c;rw[g]at d;exact⟨m,n,c,d⟩
theorem zW{b:World}{f:ByteArray}{l c:Int}(T:aB k a i b N)(B:a.heap[D]?=some (.cells #[string f,int i64 l,int i64 c] 36))(j:D≠k)(m:∀d,gO i d->d≠D) :
  b.cell? ⟨D,0,none⟩=some (string f)/\b.cell? ⟨D,1,none⟩=some (int i64 l)/\b.cell? ⟨D,2,none⟩=some (int i64 c):=by
 have g:=T.1.get B (by rintro (e | e);exact j e;exact m _ e rfl);refine⟨?_,?_,?_⟩ <;> rw[aj g] <;> rfl
theorem Cb(h:aV d f T n S w l)(g:n.length=H)(hm:0<w.We.length)(c:ge w 10000000) :
  Calls prog 253 #[pointer (some ⟨f,H,none⟩),agg #[string b,int i64 y,int i64 x]] d fun e a=>e=returned (tuple #[])/\∃H',aV a f T n S (aW w ⟨b,y,x⟩) H'/\aB f d l a H':=by
 obtain⟨W,X⟩:∃W,W=d.alloc (.cells #[string b,int i64 y,int i64 x] 36):=⟨_,rfl⟩
 have K:=fN X.symm;have D:=h.Wj K;have J:Hid _:=X.symm;have B:=fY X.symm;have m:d.heap.size≠f:=by have:=h.lt;omega
 have v:Hid (∀k,gO l k->k≠d.heap.size):=fun k hk=>by have:=h.inlt hk;omega
 have o:=(show Hid (ge w 100000000) from⟨by have:=c.Wm;omega,by have:=c.Wg;omega,by have:=c.Wh;omega,by have:=c.Wn;omega,by have:=c.Wq;omega,by have:=c.blocks;omega,by have:=c.Wv;omega,by have:=c.rbl;omega,by have:=c.We;omega,by have:=c.Wp;omega⟩);clear X;obtain⟨q0,q1,q2,q3,q4,q5,q6,q7,q8,q9,p,C,E⟩:=D.cells H g;clear q0 q1 q2 q3 q4 q5 q6 q7 C;have an:=c.We;cases Y:(w.kind==7)
 ·cases k8:(w.kind==8)
  ·by_cases G:(w.kind==2)=true/\1<w.We.length
   ·have j:Hid (aW w ⟨b,y,x⟩=nc { w with Wq:=w.Wq++[w.We.getD 1 ⟨#[]⟩] } ⟨b,y,x⟩):=(by show aW w ⟨b,y,x⟩=_;unfold aW nC;rw[Y,k8,RY G];simp);obtain⟨M,z⟩:=G;have hx:w.We.getD 1 ⟨#[]⟩=w.We[1]:=(by rw[RT,RQ z];rfl);rw[hx]at j;have A:aC W (l 8) (aG w.We):=D.own 8;rcases A.Wu with ⟨_,h0,_⟩ | ⟨g8,ag,e8,-,ac,-⟩
    ·have:w.We.length=0:=h0;omega
    ·have c1:=A.cell e8 1 (string w.We[1]) (t9 w.We 1 z);rw[e8]at p;have al:w.We.length<=(l 8).cap:=ac;have ap:=c.Wq;clear A hx;generalize w.We[1]=af at *;go_enter func253,ntmps253;(go_upto_region 1 with fail);rw[J.out];(go_upto_region 3 with fail);go_region_with (go_at_call 268;refine(z9 f T H n S w l af _ (by exact D.Wj (aa.refl [] _).drew) g (by omega)).mono ?_;rintro e U ⟨rfl,i,F,s⟩)
     all_goals
      have u:=v;have V:=s.1.get (by exact B) (by rintro (e | e);exact m e;exact u.out _ e rfl);have ai:=ae B;have L:Hid (∀k,gO i k->k≠d.heap.size):=fun k hk=>by
       rcases s.2 k hk with h' | h'
       ·exact u.out k h'
       ·rintro rfl;have h2:W.heap.size<=d.heap.size:=h';omega
      have Z:Hid _:=(s.first (aa.refl [] _).drew).first K;clear q8 q9 p E c1 s D B;obtain⟨q0,q1,q2,q3,q4,q5,q6,q7,q8,q9,p,C,E⟩:=F.cells H g;clear q0 q1 q2 q3 q4 q5 q6 q7 C;simp only at q8 q9 p E;have N:U.cell? ⟨d.heap.size,0,none⟩=some (string b):=(by rw[aj V];rfl);have O:U.cell? ⟨d.heap.size,1,none⟩=some (int i64 y):=(by rw[aj V];rfl);have P:U.cell? ⟨d.heap.size,2,none⟩=some (int i64 x):=(by rw[aj V];rfl);have ad:=(show Hid (ge { w with Wq:=w.Wq++[af] } 100000000) from⟨by have:=c.Wm;simp only;omega,by have:=c.Wg;simp only;omega,by have:=c.Wh;simp only;omega,by have:=c.Wn;simp only;omega,by simp;omega,by have:=c.blocks;simp only;omega,by have:=c.Wv;simp only;omega,by have:=c.rbl;simp only;omega,by have:=c.We;simp only;omega,by have:=c.Wp;simp only;omega⟩)
     all_goals go_upto_region 4 with fail
     all_goals go_region_held3 (fun a=>a.cell? ⟨f,H+8,none⟩=some (int i64 w.kind)/\a.cell? ⟨f,H+9,none⟩=some (string w.label)/\a.cell? ⟨f,H+10,none⟩=some (slice (i 8).ao w.We.length (i 8).cap)/\a.cell? ⟨f,H+12,none⟩=some (slice (i 9).ao w.Wp.length (i 9).cap)/\a.cell? ⟨d.heap.size,0,none⟩=some (string b)/\a.cell? ⟨d.heap.size,1,none⟩=some (int i64 y)/\a.cell? ⟨d.heap.size,2,none⟩=some (int i64 x)) (go_keep) (first | (go_at_call 269;refine(su f T H n S { w with Wq:=w.Wq++[af] } i w.kind w.label b y x _ (by exact F.Wj (aa.refl [] _).drew) g ad.out).mono ?_;rintro e w9 ⟨rfl,I,q,t,r⟩;obtain⟨r8,r9,Q,R⟩:=zX q g (r 8 (by omega) (by omega)) (r 9 (by omega) (by omega));obtain⟨N,O,P⟩:=zW t (by exact V) m L.out))
     all_goals go_wp2
     all_goals go_end0
     all_goals exact⟨rfl,I,by rw[j.out];exact q,aB.trans Z.out (t.first (aa.refl [] _).drew)⟩
   ·have j:Hid (aW w ⟨b,y,x⟩=nc w ⟨b,y,x⟩):=(by show aW w ⟨b,y,x⟩=_;unfold aW nC;rw[Y,k8,RU G];simp);cases M:(w.kind==2)
    ·clear G;go_enter func253,ntmps253;(go_upto_region 1 with fail);rw[J.out];(go_upto_region 4 with fail);obtain⟨N,O,P⟩:=vH B;go_region_held3 (fun a=>a.cell? ⟨f,H+8,none⟩=some (int i64 w.kind)/\a.cell? ⟨f,H+9,none⟩=some (string w.label)/\a.cell? ⟨f,H+10,none⟩=some (slice (l 8).ao w.We.length (l 8).cap)/\a.cell? ⟨f,H+12,none⟩=some (slice (l 9).ao w.Wp.length (l 9).cap)/\a.cell? ⟨d.heap.size,0,none⟩=some (string b)/\a.cell? ⟨d.heap.size,1,none⟩=some (int i64 y)/\a.cell? ⟨d.heap.size,2,none⟩=some (int i64 x)) (go_keep) (first | (go_at_call 269;refine(su f T H n S w l w.kind w.label b y x _ (by exact D.Wj (aa.refl [] _).drew) g o.out).mono ?_;rintro e w9 ⟨rfl,I,q,t,r⟩;obtain⟨r8,r9,Q,R⟩:=zX q g (r 8 (by omega) (by omega)) (r 9 (by omega) (by omega));obtain⟨N,O,P⟩:=zW t (by exact B) m v.out))
     all_goals go_wp2
     all_goals go_end0
     all_goals exact⟨rfl,I,by rw[j.out];exact q,(t.first (aa.refl [] _).drew).first K⟩
    ·have z:¬1<w.We.length:=fun hh=>G ⟨M,hh⟩;clear G;go_enter func253,ntmps253;(go_upto_region 1 with fail);rw[J.out];(go_upto_region 4 with fail);obtain⟨N,O,P⟩:=vH B;go_region_held3 (fun a=>a.cell? ⟨f,H+8,none⟩=some (int i64 w.kind)/\a.cell? ⟨f,H+9,none⟩=some (string w.label)/\a.cell? ⟨f,H+10,none⟩=some (slice (l 8).ao w.We.length (l 8).cap)/\a.cell? ⟨f,H+12,none⟩=some (slice (l 9).ao w.Wp.length (l 9).cap)/\a.cell? ⟨d.heap.size,0,none⟩=some (string b)/\a.cell? ⟨d.heap.size,1,none⟩=some (int i64 y)/\a.cell? ⟨d.heap.size,2,none⟩=some (int i64 x)) (go_keep) (first | (go_at_call 269;refine(su f T H n S w l w.kind w.label b y x _ (by exact D.Wj (aa.refl [] _).drew) g o.out).mono ?_;rintro e w9 ⟨rfl,I,q,t,r⟩;obtain⟨r8,r9,Q,R⟩:=zX q g (r 8 (by omega) (by omega)) (r 9 (by omega) (by omega));obtain⟨N,O,P⟩:=zW t (by exact B) m v.out))
     all_goals go_wp2
     all_goals go_end0
     all_goals exact⟨rfl,I,by rw[j.out];exact q,(t.first (aa.refl [] _).drew).first K⟩
  ·have j:Hid (aW w ⟨b,y,x⟩=dW w w.We.length):=(by show aW w ⟨b,y,x⟩=_;unfold aW;rw[Y,k8];simp);go_enter func253,ntmps253;(go_upto_region 1 with fail);rw[J.out];go_wp2_with fail;go_region_with (go_at_call 267;refine(ui f T H n S w l _ (by exact D.Wj (aa.refl [] _).drew) g hm o.out).mono ?_;rintro e U ⟨rfl,i,F,s⟩)
   all_goals go_wp2
   all_goals go_end0
   all_goals exact⟨rfl,i,by rw[j.out];exact F,(s.first (aa.refl [] _).drew).first K⟩
 ·have j:Hid (aW w ⟨b,y,x⟩={ w with Wg:=w.Wg++w.We }):=by show aW w ⟨b,y,x⟩=_;unfold aW;rw[Y];simp
  go_enter func253,ntmps253;go_upto_region 1 with fail
  rw[J.out];go_wp2_with fail;go_region_with (go_at_call 266;refine(uh f T H n S w l _ (by exact D.Wj (aa.refl [] _).drew) g hm o.out).mono ?_;rintro e U ⟨rfl,i,F,s⟩)
  all_goals go_wp2
  all_goals go_end0
  all_goals exact⟨rfl,i,by rw[j.out];exact F,(s.first (aa.refl [] _).drew).first K⟩
def jf(d:Db)(x:ByteArray):Int:=if aJ d.Wn x=false then 18 else if aJ d.We x=true then 19 else 0
def jg(d:Db)(x:ByteArray):Int:=if aJ d.Wg x=false then 17 else 0
def fQ(d:Db)(x:ByteArray):Int:=if 1<d.We.length then 16 else if aJ d.Wn x=false then 18 else if aJ d.Wq x=true then 20 else 0
def fM(d:Db)(x:ByteArray):Int:=if aJ d.Wg x=true then 0 else if aJ d.Wn x=false then 21 else if aJ d.Wq x=false then 22 else 0
def bh(d:Db)(x:ByteArray):Int :=
 if(d.kind==7)=true then(if aJ d.We x=true∨dU d x=true then 13 else 0)
 else if(d.kind==8)=true then(if aJ d.We x=true∨eJ d x=true then 13 else 0)
 else if(d.kind==1)=true then jf d x
 else if d.We.length=0 then jg d x
 else if(d.kind==2)=true then fQ d x
 else fM d x
set_option maxRecDepth 512
theorem sY(h:aV d f T n S w l)(c:n.length=H)(a:ge w 1073741824) :
  Calls prog 257 #[pointer (some ⟨f,H,none⟩),string b] d fun e p=>e=returned (int i64 (jf w b))/\p=d:=by
 obtain⟨r,s,t,u,v,x,y,z,A,B,k,m,o⟩:=h.cells H c;have j:=a.We;cases g:aJ w.Wn b <;> cases i:aJ w.We b
 all_goals
  go_enter func257,ntmps257;go_wp2_with (first | (go_at_call 270;refine(kN f T H n S w l b _ (by exact h) c a.Wn).mono ?_;rintro e q ⟨rfl,rfl⟩) | (go_at_call 254;refine(ff (l 8) w.We b _ (by exact h.own 8) a.We).mono ?_;rintro e q ⟨rfl,rfl⟩));go_ret;exact⟨au (by simp[jf,g,i]),rfl⟩
theorem s9(h:aV d f T n S w l)(a:n.length=H)(c:ge w 1073741824) :
  Calls prog 258 #[pointer (some ⟨f,H,none⟩),string b] d fun e o=>e=returned (int i64 (jg w b))/\o=d:=by
 obtain⟨p,q,r,s,t,u,v,x,y,z,j,k,m⟩:=h.cells H a;have i:=c.We;cases g:aJ w.Wg b
 all_goals
  go_enter func258,ntmps258;go_wp2_with (first | (go_at_call 271;refine(nj f T H n S w l b _ (by exact h) a c.Wg).mono ?_;rintro e A ⟨rfl,rfl⟩));go_ret;exact⟨au (by simp[jg,g]),rfl⟩
theorem sZ(h:aV d f T n S w l)(a:n.length=H)(c:ge w 1073741824) :
  Calls prog 259 #[pointer (some ⟨f,H,none⟩),string b] d fun e r=>e=returned (int i64 (fQ w b))/\r=d:=by
 obtain⟨s,t,u,v,x,y,z,A,B,C,o,p,q⟩:=h.cells H a;have m:=c.We;by_cases i:1<w.We.length
 ·go_enter func259,ntmps259;go_wp2_with (first | (go_at_call 270;refine(kN f T H n S w l b _ (by exact h) a c.Wn).mono ?_;rintro e g ⟨rfl,rfl⟩) | (go_at_call 272;refine(nL f T H n S w l b _ (by exact h) a c.Wq).mono ?_;rintro e g ⟨rfl,rfl⟩));go_ret;exact⟨au (by simp[fQ,i]),rfl⟩
 ·cases j:aJ w.Wn b <;> cases k:aJ w.Wq b
  all_goals
   go_enter func259,ntmps259;go_wp2_with (first | (go_at_call 270;refine(kN f T H n S w l b _ (by exact h) a c.Wn).mono ?_;rintro e g ⟨rfl,rfl⟩) | (go_at_call 272;refine(nL f T H n S w l b _ (by exact h) a c.Wq).mono ?_;rintro e g ⟨rfl,rfl⟩));go_ret;exact⟨au (by simp[fQ,i,j,k]),rfl⟩
theorem rh(h:aV d f T n S w l)(a:n.length=H)(c:ge w 1073741824) :
  Calls prog 260 #[pointer (some ⟨f,H,none⟩),string b] d fun e r=>e=returned (int i64 (fM w b))/\r=d:=by
 obtain⟨s,t,u,v,x,y,z,A,B,C,o,p,q⟩:=h.cells H a;have m:=c.We;cases i:aJ w.Wg b
 ·cases j:aJ w.Wn b <;> cases k:aJ w.Wq b
  all_goals
   go_enter func260,ntmps260;go_wp2_with (first | (go_at_call 271;refine(nj f T H n S w l b _ (by exact h) a c.Wg).mono ?_;rintro e g ⟨rfl,rfl⟩) | (go_at_call 270;refine(kN f T H n S w l b _ (by exact h) a c.Wn).mono ?_;rintro e g ⟨rfl,rfl⟩) | (go_at_call 272;refine(nL f T H n S w l b _ (by exact h) a c.Wq).mono ?_;rintro e g ⟨rfl,rfl⟩));go_ret;exact⟨au (by simp[fM,i,j,k]),rfl⟩
 ·go_enter func260,ntmps260;go_wp2_with (first | (go_at_call 271;refine(nj f T H n S w l b _ (by exact h) a c.Wg).mono ?_;rintro e g ⟨rfl,rfl⟩) | (go_at_call 270;refine(kN f T H n S w l b _ (by exact h) a c.Wn).mono ?_;rintro e g ⟨rfl,rfl⟩) | (go_at_call 272;refine(nL f T H n S w l b _ (by exact h) a c.Wq).mono ?_;rintro e g ⟨rfl,rfl⟩));go_ret;exact⟨au (by simp[fM,i]),rfl⟩
theorem px(h:aV d f T n S w l)(g:n.length=H)(a:ge w 1073741824) :
  Calls prog 237 #[pointer (some ⟨f,H,none⟩),string b] d fun e y=>e=returned (int i64 (bh w b))/\y=d:=by
 obtain⟨z,A,B,C,D,E,F,G,I,J,u,v,x⟩:=h.cells H g;have t:=a.We;cases k:(w.kind==7)
 ·cases m:(w.kind==8)
  ·cases o:(w.kind==1)
   ·by_cases i:w.We.length=0
    ·have c:Hid (bh w b=jg w b):=(by show bh w b=_;simp only[bh,k,m,o,i];simp);have r:((w.We.length:Int)==0)=true:=(by simp[i]);clear i;go_enter func237,ntmps237;go_wp2_with (first | (go_at_call 258;refine(s9 f T H n S w l b _ (by exact h) g a).mono ?_;rintro e j ⟨rfl,rfl⟩));go_ret;exact⟨au (by rw[c.out]),rfl⟩
    ·have r:((w.We.length:Int)==0)=false:=Sp.2 (by omega);cases s:(w.kind==2)
     ·have c:Hid (bh w b=fM w b):=(by show bh w b=_;simp[bh,k,m,o,s,i]);clear i;go_enter func237,ntmps237;go_wp2_with (first | (go_at_call 260;refine(rh f T H n S w l b _ (by exact h) g a).mono ?_;rintro e j ⟨rfl,rfl⟩));go_ret;exact⟨au (by rw[c.out]),rfl⟩
     ·have c:Hid (bh w b=fQ w b):=(by show bh w b=_;simp[bh,k,m,o,s,i]);clear i;go_enter func237,ntmps237;go_wp2_with (first | (go_at_call 259;refine(sZ f T H n S w l b _ (by exact h) g a).mono ?_;rintro e j ⟨rfl,rfl⟩));go_ret;exact⟨au (by rw[c.out]),rfl⟩
   ·have c:Hid (bh w b=jf w b):=(by show bh w b=_;simp[bh,k,m,o]);go_enter func237,ntmps237;go_wp2_with (first | (go_at_call 257;refine(sY f T H n S w l b _ (by exact h) g a).mono ?_;rintro e j ⟨rfl,rfl⟩));go_ret;exact⟨au (by rw[c.out]),rfl⟩
  ·cases p:aJ w.We b <;> cases q:eJ w b
   all_goals
    go_enter func237,ntmps237;go_wp2_with (first | (go_at_call 254;refine(ff (l 8) w.We b _ (by exact h.own 8) a.We).mono ?_;rintro e j ⟨rfl,rfl⟩) | (go_at_call 256;refine(AA f T H n S w l b _ (by exact h) g a).mono ?_;rintro e j ⟨rfl,rfl⟩));go_ret;exact⟨au (by simp[bh,k,m,p,q]),rfl⟩
 ·cases p:aJ w.We b <;> cases q:dU w b
  all_goals
   go_enter func237,ntmps237;go_wp2_with (first | (go_at_call 254;refine(ff (l 8) w.We b _ (by exact h.own 8) a.We).mono ?_;rintro e j ⟨rfl,rfl⟩) | (go_at_call 255;refine(me f T H n S w l b _ (by exact h) g a).mono ?_;rintro e j ⟨rfl,rfl⟩));go_ret;exact⟨au (by simp[bh,k,p,q]),rfl⟩
theorem ge.mono{M:Nat}(h:ge o k)(a:k<=M):ge o M :=
 ⟨Sc h.Wm a,Sc h.Wg a,Sc h.Wh a,Sc h.Wn a,Sc h.Wq a,Sc h.blocks a,Sc h.Wv a,Sc h.rbl a,Sc h.We a,Sc h.Wp a⟩
theorem aV.kind(h:aV a k D L I o i)(d:Nat)(e:L.length=d)(b:Int) :
  Hid (aV (a.setCell ⟨k,d+8,none⟩ (int i64 b)) k D L I { o with kind:=b } i/\aB k a i (a.setCell ⟨k,d+8,none⟩ (int i64 b)) i) :=
 h.set (d':={ o with kind:=b }) d 8 e (Kd o i b) _ (by omega) rfl
theorem aV.lab(h:aV a k D L I o i)(d:Nat)(e:L.length=d)(c:ByteArray) :
  Hid (aV (a.setCell ⟨k,d+9,none⟩ (string c)) k D L I { o with label:=c } i/\aB k a i (a.setCell ⟨k,d+9,none⟩ (string c)) i) :=
 h.set (d':={ o with label:=c }) d 9 e (Fu o i c) _ (by omega) rfl
theorem aV.Wi(h:aV a k D L I o i)(c:Nat)(e:L.length=c)(b:Bool) :
  Hid (aV (a.setCell ⟨k,c+11,none⟩ (bool b)) k D L I { o with Wi:=b } i/\aB k a i (a.setCell ⟨k,c+11,none⟩ (bool b)) i) :=
 h.set (d':={ o with Wi:=b }) c 11 e (A7 o i b) _ (by omega) rfl
theorem aV.forget(h:aV a k D L I o i)(b:Nat)(d:L.length=b) :
  aV (a.setCell ⟨k,b+10,none⟩ (slice none 0 0)) k D L I { o with We:=[] } (ip i 8 ⟨none,0⟩)/\aB k a i (a.setCell ⟨k,b+10,none⟩ (slice none 0 0)) (ip i 8 ⟨none,0⟩) :=
 h.put (d':={ o with We:=[] }) b 10 d 8 (by omega) ⟨none,0⟩ ⟨by simp[aY,aG,eS],R4 ⟨by simp[aY,aG],by simp[aY,aG]⟩⟩ (VG _ _) (R4 rfl) (tV o i []) _ (by omega) (by simp[cr,ip])
theorem aV.noProof(h:aV a k D L I o i)(b:Nat)(d:L.length=b) :
  aV (a.setCell ⟨k,b+12,none⟩ (slice none 0 0)) k D L I { o with Wp:=[] } (ip i 9 ⟨none,0⟩)/\aB k a i (a.setCell ⟨k,b+12,none⟩ (slice none 0 0)) (ip i 9 ⟨none,0⟩) :=
 h.put (d':={ o with Wp:=[] }) b 12 d 9 (by omega) ⟨none,0⟩ ⟨by simp[aY,ic,nY],R4 ⟨by simp[aY,ic],by simp[aY,ic]⟩⟩ (VG _ _) (R4 rfl) (xF o i []) _ (by omega) (by simp[cr,ip])
def aI(d:Db)(x:ByteArray):Int×Db :=
 if(x.toList == [36,102])=true then(0,{ d with kind:=2 })
 else if(x.toList == [36,101])=true then(0,{ d with kind:=3 })
 else if(x.toList == [36,97])=true then(0,{ d with kind:=4 })
 else if(x.toList == [36,112])=true then(0,{ d with kind:=5 })
 else(14,d)
def ce(d:Db):Int×Db:=if d.We.length=0 then(15,d) else(0,{ d with Wi:=true })
def bO(d:Db)(x:ByteArray):Int×Db :=
 if dn x=true then(8,d) else if ia x=false then(12,d) else if dU d x=true then(13,d)
 else(0,{ d with Wm:=d.Wm++[x],label:=x,kind:=6 })
def l9(d:Db)(p:Pl):Int×Db :=
 if(d.We.length:Int)<mA d then(15,d)
 else if(d.kind==5)=true/\d.Wi=false then(23,d)
 else(0,{ aW d p with kind:=0,label:=⟨#[]⟩,We:=[],Wi:=false,Wp:=[] })
def cI(d:Db)(q:Nat×Nat):Db :=
 match d.rbl.getLast? with
 | none=>de d d.blocks.dropLast q
 | some x=>{ de d d.blocks.dropLast q with rbl:=d.rbl.dropLast,Wv:=ki d.Wv x }
def aw(d:Db)(x:ByteArray):Int×Db :=
 if(x.toList == [36,123])=true then(0,{ d with blocks:=d.blocks++[(d.Wn.length,d.Wq.length)],rbl:=d.rbl++[d.Wv.length] })
 else if(x.toList == [36,125])=true then(match d.blocks.getLast? with | none=>(9,d) | some p=>(0,cI d p))
 else if(x.toList == [36,99])=true then(if 0<d.blocks.length then(10,d) else(0,{ d with kind:=7 }))
 else if(x.toList == [36,118])=true then(0,{ d with kind:=8 })
 else if(x.toList == [36,100])=true then(0,{ d with kind:=1 })
 else if(x.toList == [36,102])=true∨(x.toList == [36,101])=true∨(x.toList == [36,97])=true∨(x.toList == [36,112])=true then(11,d)
 else bO d x
def aX(d:Db)(x:ByteArray)(p:Pl):Int×Db :=
 if(d.kind==0)=true then aw d x
 else if(d.kind==6)=true then aI d x
 else if(x.toList == [36,46])=true then l9 d p
 else if(x.toList == [36,61])=true/\(d.kind==5)=true/\d.Wi=false then ce d
 else if dn x=true then(8,d)
 else if d.Wi=true then(0,{ d with Wp:=d.Wp++[(x,p)] })
 else if(bh d x==0)=true then(0,{ d with We:=d.We++[x] })
 else(bh d x,d)
set_option maxRecDepth 100000
theorem vM(h:aV d f T n S w l)(o:n.length=H) :
  Calls prog 234 #[pointer (some ⟨f,H,none⟩),string b] d fun e q=>e=returned (int i64 (aI w b).1)/\∃p,aV q f T n S (aI w b).2 p/\aB f d l q p:=by
 obtain⟨v,x,y,z,A,B,C,D,E,F,s,t,u⟩:=h.cells H o;have r:=h.free;cases a:(b.toList == [36,102])
 ·cases g:(b.toList == [36,101])
  ·cases m:(b.toList == [36,97])
   ·cases k:(b.toList == [36,112])
    ·have c:Hid (aI w b=(14,w)):=(by show aI w b=_;simp only[aI,a,g,m,k];simp);go_enter func234,ntmps234;go_wp2;go_ret;exact⟨au (by rw[c.out]),l,by rw[c.out];exact h,aB.refl _ _ _⟩
    ·have c:Hid (aI w b=(0,{ w with kind:=5 })):=(by show aI w b=_;simp only[aI,a,g,m,k];simp);have i:=h.kind H o 5;go_enter func234,ntmps234;go_wp2;go_ret;exact⟨au (by rw[c.out]),l,by rw[c.out];exact i.out.1,i.out.2⟩
   ·have c:Hid (aI w b=(0,{ w with kind:=4 })):=(by show aI w b=_;simp only[aI,a,g,m];simp);have i:=h.kind H o 4;go_enter func234,ntmps234;go_wp2;go_ret;exact⟨au (by rw[c.out]),l,by rw[c.out];exact i.out.1,i.out.2⟩
  ·have c:Hid (aI w b=(0,{ w with kind:=3 })):=(by show aI w b=_;simp only[aI,a,g];simp);have i:=h.kind H o 3;go_enter func234,ntmps234;go_wp2;go_ret;exact⟨au (by rw[c.out]),l,by rw[c.out];exact i.out.1,i.out.2⟩
 ·have c:Hid (aI w b=(0,{ w with kind:=2 })):=by show aI w b=_;simp only[aI,a];simp
  have i:=h.kind H o 2;go_enter func234,ntmps234;go_wp2;go_ret;exact⟨au (by rw[c.out]),l,by rw[c.out];exact i.out.1,i.out.2⟩
theorem wy(h:aV d f T n S w l)(j:n.length=H) :
  Calls prog 236 #[pointer (some ⟨f,H,none⟩)] d fun e k=>e=returned (int i64 (ce w).1)/\∃g,aV k f T n S (ce w).2 g/\aB f d l k g:=by
 obtain⟨s,t,u,v,x,y,z,A,B,C,o,p,q⟩:=h.cells H j;have m:=h.free;by_cases b:w.We.length=0
 ·have a:Hid (ce w=(15,w)):=by show ce w=_;simp only[ce,b];simp
  have c:((w.We.length:Int)==0)=true:=by simp[b]
  clear b;go_enter func236,ntmps236;go_wp2;go_ret;exact⟨au (by rw[a.out]),l,by rw[a.out];exact h,aB.refl _ _ _⟩
 ·have a:Hid (ce w=(0,{ w with Wi:=true })):=by show ce w=_;simp only[ce,b];simp
  have c:((w.We.length:Int)==0)=false:=Sp.2 (by omega);have i:=h.Wi H j true;clear b;go_enter func236,ntmps236;go_wp2;go_ret;exact⟨au (by rw[a.out]),l,by rw[a.out];exact i.out.1,i.out.2⟩
theorem yI(h:aV d f T n S w l)(g:n.length=H)(k:ge w 100000000)(i:b.size<=1073741824) :
  Calls prog 251 #[pointer (some ⟨f,H,none⟩),string b] d fun e J=>e=returned (int i64 (bO w b).1)/\∃t,aV J f T n S (bO w b).2 t/\aB f d l J t:=by
 obtain⟨y,z,A,B,C,D,E,F,G,I,m,o,p⟩:=h.cells H g;have j:=h.free;cases q:dn b
 ·cases s:ia b
  ·have a:Hid (bO w b=(12,w)):=(by show bO w b=_;simp[bO,q,s]);go_enter func251,ntmps251;go_wp2_with (first | (go_at_call 232;refine(eI b _ i).mono ?_;rintro e c ⟨rfl,rfl⟩) | (go_at_call 264;refine(nK b _ i).mono ?_;rintro e c ⟨rfl,rfl⟩) | (go_at_call 255;refine(me f T H n S w l b _ (by exact h) g (k.mono (by omega))).mono ?_;rintro e c ⟨rfl,rfl⟩));go_ret;exact⟨au (by rw[a.out]),l,by rw[a.out];exact h,aB.refl _ _ _⟩
  ·cases x:dU w b
   ·have a:Hid (bO w b=(0,{ w with Wm:=w.Wm++[b],label:=b,kind:=6 })):=(by show bO w b=_;simp[bO,q,s,x]);have M:=k.Wm;go_enter func251,ntmps251;go_wp2_with (first | (go_at_call 232;refine(eI b _ i).mono ?_;rintro e c ⟨rfl,rfl⟩) | (go_at_call 264;refine(nK b _ i).mono ?_;rintro e c ⟨rfl,rfl⟩) | (go_at_call 255;refine(me f T H n S w l b _ (by exact h) g (k.mono (by omega))).mono ?_;rintro e c ⟨rfl,rfl⟩));refine(z8 f T H n S w l b _ (by exact h) g (by omega)).mono ?_;rintro e O ⟨rfl,K,r,L⟩;have v:=r.lab H g b;have u:=v.out.1.kind H g 6;clear y z A B C D E F G I m o p j;obtain⟨y,z,A,B,C,D,E,F,G,I,m,o,p⟩:=r.cells H g;have j:=r.free;go_wp2;go_ret;exact⟨au (by rw[a.out]),K,by rw[a.out];exact u.out.1,L.trans (v.out.2.trans u.out.2)⟩
   ·have a:Hid (bO w b=(13,w)):=(by show bO w b=_;simp[bO,q,s,x]);go_enter func251,ntmps251;go_wp2_with (first | (go_at_call 232;refine(eI b _ i).mono ?_;rintro e c ⟨rfl,rfl⟩) | (go_at_call 264;refine(nK b _ i).mono ?_;rintro e c ⟨rfl,rfl⟩) | (go_at_call 255;refine(me f T H n S w l b _ (by exact h) g (k.mono (by omega))).mono ?_;rintro e c ⟨rfl,rfl⟩));go_ret;exact⟨au (by rw[a.out]),l,by rw[a.out];exact h,aB.refl _ _ _⟩
 ·have a:Hid (bO w b=(8,w)):=by show bO w b=_;simp[bO,q]
  go_enter func251,ntmps251;go_wp2_with (first | (go_at_call 232;refine(eI b _ i).mono ?_;rintro e c ⟨rfl,rfl⟩) | (go_at_call 264;refine(nK b _ i).mono ?_;rintro e c ⟨rfl,rfl⟩) | (go_at_call 255;refine(me f T H n S w l b _ (by exact h) g (k.mono (by omega))).mono ?_;rintro e c ⟨rfl,rfl⟩));go_ret;exact⟨au (by rw[a.out]),l,by rw[a.out];exact h,aB.refl _ _ _⟩
theorem Jh:1<=mA w:=by unfold mA;split <;> omega
theorem N2(h:aV d f T n S w l)(a:n.length=H)(hs:ge w 10000000) :
  Calls prog 235 #[pointer (some ⟨f,H,none⟩),agg #[string b,int i64 y,int i64 x]] d fun e V=>e=returned (int i64 (l9 w ⟨b,y,x⟩).1)/\∃J,aV V f T n S (l9 w ⟨b,y,x⟩).2 J/\aB f d l V J:=by
 obtain⟨W,q⟩:∃W,W=d.alloc (.cells #[string b,int i64 y,int i64 x] 36):=⟨_,rfl⟩
 have K:=fN q.symm;have D:=h.Wj K;have t:Hid _:=q.symm;have B:=fY q.symm;obtain⟨p0,p1,p2⟩:=vH B;clear q B h;obtain⟨v,z,A,C,E,F,G,I,R,U,o,c,p⟩:=D.cells H a;clear v z A C E F G I U p;have j:=D.free;by_cases i:(w.We.length:Int)<mA w
 ·have g:Hid (l9 w ⟨b,y,x⟩=(15,w)):=by show l9 w ⟨b,y,x⟩=_;simp only[l9,if_pos i]
  go_enter func235,ntmps235;go_upto_region 1 with fail
  rw[t.out];go_quiet ((go_at_call 252;exact Ss (uC f T H n S w l _ (D.Wj ((aa.refl [] W).drewN _)) a)));go_wp2;go_ret;exact⟨au (by rw[g.out]),l,by rw[g.out];exact D.Wj ((aa.refl [] _).drewN _),(aB.refl _ _ _).Wj (K.drewN _)⟩
 ·have u:Hid (0<w.We.length):=by have:=Jh w;show 0<_;omega
  by_cases m:(w.kind==5)=true/\w.Wi=false
  ·have g:Hid (l9 w ⟨b,y,x⟩=(23,w)):=(by show l9 w ⟨b,y,x⟩=_;simp only[l9,if_neg i,if_pos m]);obtain⟨r,Y⟩:=m;rw[Y]at c;go_enter func235,ntmps235;(go_upto_region 1 with fail);rw[t.out];go_quiet ((go_at_call 252;exact Ss (uC f T H n S w l _ (D.Wj ((aa.refl [] W).drewN _)) a)));go_wp2;go_ret;exact⟨au (by rw[g.out]),l,by rw[g.out];exact D.Wj ((aa.refl [] _).drewN _),(aB.refl _ _ _).Wj (K.drewN _)⟩
  ·have g:Hid (l9 w ⟨b,y,x⟩=(0,{ aW w ⟨b,y,x⟩ with kind:=0,label:=⟨#[]⟩,We:=[],Wi:=false,Wp:=[] })):=(by show l9 w ⟨b,y,x⟩=_;simp only[l9,if_neg i,if_neg m]);have k:(w.kind==5)=true->w.Wi=true:=by
    intro r;cases Z:w.Wi with
    | true=>rfl
    | false=>exact absurd ⟨r,Z⟩ m
   cases r:(w.kind==5)
   all_goals
    try rw[k r]at c
    clear k;clear m;go_enter func235,ntmps235;(go_upto_region 1 with fail);rw[t.out];go_quiet ((go_at_call 252;exact Ss (uC f T H n S w l _ (D.Wj ((aa.refl [] W).drewN _)) a)));go_wp2_with fail;refine(Cb f T H n S w l b y x _ (by exact D.Wj ((aa.refl [] _).drewN _)) a u.out hs).mono ?_;rintro e w2 ⟨rfl,H2,s,X⟩;have L:=s.kind H a 0;have M:=L.out.1.lab H a ⟨#[]⟩;have N:Hid _:=M.out.1.forget H a;have O:=N.out.1.Wi H a false;have P:Hid _:=O.out.1.noProof H a;clear R o c j p0 p1 p2;obtain⟨v,z,A,C,E,F,G,I,R,U,o,c,p⟩:=s.cells H a;clear v z A C E F G I;have j:=s.free;go_wp2;go_ret;exact⟨au (by rw[g.out]),_,by rw[g.out];exact P.out.1,(X.first (K.drewN _)).trans (L.out.2.trans (M.out.2.trans (N.out.2.trans (O.out.2.trans P.out.2))))⟩
theorem rW{α:Type}{l:List α}{p:α}(h:l.getLast?=some p):l=l.dropLast++[p]:=by
 obtain⟨a,rfl⟩:=List.getLast?_eq_some_iff.1 h;simp
structure Bx(d:Db)(N:Nat):Prop where
 names:∀p,p∈d.blocks->p.1<=N/\p.2<=N
 same:d.rbl.length=d.blocks.length
 recs:∀x,x∈d.rbl->x<=d.Wv.length
theorem yH(h:aV d f T n S w l)(t:n.length=H)(F:ge w 10000000)(hx:b.size<=1073741824)(K:Bx w 100000000) :
  Calls prog 233 #[pointer (some ⟨f,H,none⟩),string b] d fun e U=>e=returned (int i64 (aw w b).1)/\∃Q,aV U f T n S (aw w b).2 Q/\aB f d l U Q:=by
 have k:=F.mono (M:=100000000) (by omega);obtain⟨q0,q1,q2,q3,q4,q5,q6,q7,q8,q9,ad,af,ag⟩:=h.cells H t;have ac:=h.free;cases a:(b.toList == [36,123])
 ·cases g:(b.toList == [36,125])
  ·cases o:(b.toList == [36,99])
   ·cases j:(b.toList == [36,118])
    ·cases m:(b.toList == [36,100])
     ·cases q:(b.toList == [36,102])
      ·cases s:(b.toList == [36,101])
       ·cases z:(b.toList == [36,97])
        ·cases v:(b.toList == [36,112])
         ·have c:Hid (aw w b=bO w b):=(by show aw w b=_;simp only[aw,a,g,o,j,m,q,s,z,v];simp);go_enter func233,ntmps233;go_wp2_with fail;refine(yI f T H n S w l b _ (by exact h) t k hx).mono ?_;rintro e V ⟨rfl,I,C,D⟩;go_wp2;go_ret;exact⟨au (by rw[c.out]),I,by rw[c.out];exact C,D⟩
         ·have c:Hid (aw w b=(11,w)):=(by show aw w b=_;simp only[aw,a,g,o,j,m,q,s,z,v];simp);go_enter func233,ntmps233;go_wp2;go_ret;exact⟨au (by rw[c.out]),l,by rw[c.out];exact h,aB.refl _ _ _⟩
        ·have c:Hid (aw w b=(11,w)):=(by show aw w b=_;simp only[aw,a,g,o,j,m,q,s,z];simp);go_enter func233,ntmps233;go_wp2;go_ret;exact⟨au (by rw[c.out]),l,by rw[c.out];exact h,aB.refl _ _ _⟩
       ·have c:Hid (aw w b=(11,w)):=(by show aw w b=_;simp only[aw,a,g,o,j,m,q,s];simp);go_enter func233,ntmps233;go_wp2;go_ret;exact⟨au (by rw[c.out]),l,by rw[c.out];exact h,aB.refl _ _ _⟩
      ·have c:Hid (aw w b=(11,w)):=(by show aw w b=_;simp only[aw,a,g,o,j,m,q];simp);go_enter func233,ntmps233;go_wp2;go_ret;exact⟨au (by rw[c.out]),l,by rw[c.out];exact h,aB.refl _ _ _⟩
     ·have c:Hid (aw w b=(0,{ w with kind:=1 })):=(by show aw w b=_;simp only[aw,a,g,o,j,m];simp);have u:=h.kind H t 1;go_enter func233,ntmps233;go_wp2;go_ret;exact⟨au (by rw[c.out]),l,by rw[c.out];exact u.out.1,u.out.2⟩
    ·have c:Hid (aw w b=(0,{ w with kind:=8 })):=(by show aw w b=_;simp only[aw,a,g,o,j];simp);have u:=h.kind H t 8;go_enter func233,ntmps233;go_wp2;go_ret;exact⟨au (by rw[c.out]),l,by rw[c.out];exact u.out.1,u.out.2⟩
   ·by_cases i:0<w.blocks.length
    ·have c:Hid (aw w b=(10,w)):=(by show aw w b=_;simp only[aw,a,g,o,i];simp);have A:decide (0<w.blocks.length)=true:=(by simpa using i);clear i;go_enter func233,ntmps233;go_wp2_with (go_at_call 208;refine(md f T H n S w l _ (by exact h) t).mono ?_;rintro e P ⟨rfl,rfl⟩);go_ret;exact⟨au (by rw[c.out]),l,by rw[c.out];exact h,aB.refl _ _ _⟩
    ·have c:Hid (aw w b=(0,{ w with kind:=7 })):=(by show aw w b=_;simp only[aw,a,g,o,i];simp);have A:decide (0<w.blocks.length)=false:=(by simpa using i);have u:=h.kind H t 7;clear i;go_enter func233,ntmps233;go_wp2_with (go_at_call 208;refine(md f T H n S w l _ (by exact h) t).mono ?_;rintro e P ⟨rfl,rfl⟩);go_ret;exact⟨au (by rw[c.out]),l,by rw[c.out];exact u.out.1,u.out.2⟩
  ·rcases hbb:w.blocks.getLast? with _ | p
   ·have i:w.blocks=[]:=(by simpa using hbb);have c:Hid (aw w b=(9,w)):=(by show aw w b=_;simp only[aw,a,g,hbb];simp);have A:decide (0<w.blocks.length)=false:=(by rw[i];rfl);clear hbb i;go_enter func233,ntmps233;go_wp2_with (go_at_call 208;refine(md f T H n S w l _ (by exact h) t).mono ?_;rintro e P ⟨rfl,rfl⟩);go_ret;exact⟨au (by rw[c.out]),l,by rw[c.out];exact h,aB.refl _ _ _⟩
   ·have i:w.blocks=w.blocks.dropLast++[p]:=rW hbb;have c:Hid (aw w b=(0,cI w p)):=(by show aw w b=_;simp only[aw,a,g,hbb];simp);have A:decide (0<w.blocks.length)=true:=(by rw[i];simp);have X:Hid (w.blocks=w.blocks.dropLast++[p]):=i;have hp:=K.names p (by rw[i];simp);have E:w.rbl≠[]:=(by intro e;have:=K.same;rw[e,i]at this;simp at this);obtain⟨y,L⟩:∃y,w.rbl.getLast?=some y:=⟨_,Uu E⟩
    have R:Hid (w.rbl=w.rbl.dropLast++[y]):=rW L;have N:=K.recs y (by rw[R.out];simp);have Y:Hid (cI w p={ de w w.blocks.dropLast p with rbl:=w.rbl.dropLast,Wv:=ki w.Wv y }):=(by show cI w p=_;unfold cI;rw[L]);have B:Hid (ge (de w w.blocks.dropLast p) 100000000):=⟨k.Wm,k.Wg,k.Wh,by have:=k.Wn;simp only[de,List.length_take];omega,by have:=k.Wq;simp only[de,List.length_take];omega,by have:=k.blocks;simp only[de,List.length_dropLast];omega,k.Wv,k.rbl,k.We,k.Wp⟩;clear hbb i E L;go_enter func233,ntmps233;go_wp2_with (go_at_call 208;refine(md f T H n S w l _ (by exact h) t).mono ?_;rintro e P ⟨rfl,rfl⟩);refine(Ao f T H n S w l w.blocks.dropLast p _ (by exact h) t X.out (k.mono (by omega)) ⟨by omega,by omega⟩).mono ?_;rintro e V ⟨rfl,C,D⟩;go_wp2_with fail;refine(Fm f T H n S (de w w.blocks.dropLast p) l w.rbl.dropLast y _ (by exact C) t R.out B.out N).mono ?_;rintro e w3 ⟨rfl,G,J⟩;go_wp2;go_ret;exact⟨au (by rw[c.out]),l,by rw[c.out,Y.out];exact G,D.trans J⟩
 ·have c:Hid (aw w b=(0,{ w with blocks:=w.blocks++[(w.Wn.length,w.Wq.length)],rbl:=w.rbl++[w.Wv.length] })):=by show aw w b=_;simp only[aw,a];simp
  have Z:=k.blocks;have B:Hid (ge { w with blocks:=w.blocks++[(w.Wn.length,w.Wq.length)] } 100000000):=⟨k.Wm,k.Wg,k.Wh,k.Wn,k.Wq,by have:=F.blocks;simp;omega,k.Wv,k.rbl,k.We,k.Wp⟩;go_enter func233,ntmps233;go_wp2_with fail;refine(wt f T H n S w l _ (by exact h) t (by omega)).mono ?_;rintro e V ⟨rfl,I,C,D⟩;go_wp2_with fail;refine(A6 f T H n S { w with blocks:=w.blocks++[(w.Wn.length,w.Wq.length)] } I _ (by exact C) t B.out).mono ?_;rintro e w3 ⟨rfl,W,G,J⟩;go_wp2;go_ret;exact⟨au (by rw[c.out]),W,by rw[c.out];exact G,D.trans J⟩
theorem IR(h:(b.toList == [36,61])=true):dn b=true:=by
 have:b=⟨#[36,61]⟩:=IK (by rw[ByteArray.toList_mk [36,61]];simpa using h);rw[this];decide +kernel
theorem J8(p:ByteArray×Pl):(⟨(ic g).e,(ic g).size,(ic g).n+1,(ic g).xs++rF p⟩:eB)=ic (g++[p]):=by
 simp[ic,nY]
def iC(b t o:Nat)(pre post:List Value)(d:Db)(H:Nat->Hd)(x f:ByteArray)(l c:Int)(w:World):Prop :=
 Calls prog 207 #[pointer (some ⟨b,o,none⟩),string x,agg #[string f,int i64 l,int i64 c]] w fun e w'=>e=returned (int i64 (aX d x ⟨f,l,c⟩).1)/\∃H',aV w' b t pre post (aX d x ⟨f,l,c⟩).2 H'/\aB b w H w' H'
theorem boxed(h:aV a k D L I o i)(f:ByteArray)(l c:Int) :
  ∃W,Hid (a.alloc (.cells #[string f,int i64 l,int i64 c] 36)=W)/\aa [] a W/\aV W k D L I o i/\W.cell? ⟨a.heap.size,0,none⟩=some (string f)/\W.cell? ⟨a.heap.size,1,none⟩=some (int i64 l)/\W.cell? ⟨a.heap.size,2,none⟩=some (int i64 c):=by
 have B:(a.alloc (.cells #[string f,int i64 l,int i64 c] 36)).heap[a.heap.size]?=some (.cells #[string f,int i64 l,int i64 c] 36):=R2 _ _;refine⟨_,rfl,(aa.refl [] _).alloc _,h.Wj ((aa.refl [] _).alloc _),?_,?_,?_⟩ <;> rw[aj B] <;> rfl
theorem Dv(h:aV d f T n S w l)(z:n.length=H)(q:ge w 10000000)(Z:v.size<=1073741824)(O:(w.kind==0)=false)(k1:(w.kind==6)=false)(m:(v.toList == [36,46])=false)(o:(v.toList == [36,61])=false)(V:dn v=false)(I:w.Wi=false) :
  iC f T H n S w l v b y x d:=by
 unfold iC;have X:=q.mono (M:=1073741824) (by omega);obtain⟨W,U,K,D,p0,p1,p2⟩:=boxed h b y x;clear h;obtain⟨q0,q1,q2,q3,q4,q5,q6,q7,q8,q9,P,s,Q⟩:=D.cells H z;clear q0 q1 q2 q3 q4 q5 q6 q7 q9 Q;have F:=D.free;rw[I]at s;cases C:(bh w v==0)
 ·have i:Hid (aX w v ⟨b,y,x⟩=(bh w v,w)):=by show aX w v ⟨b,y,x⟩=_;simp[aX,O,k1,m,o,V,I,C]
  go_enter func207,ntmps207;go_upto_region 1 with fail
  rw[U.out];go_wp2_with (first | (go_at_call 232;refine(eI v _ Z).mono ?_;rintro e A ⟨rfl,rfl⟩) | (go_at_call 237;refine(px f T H n S w l v _ (by exact D) z X).mono ?_;rintro e A ⟨rfl,rfl⟩));go_ret;exact⟨au (by rw[i.out]),l,by rw[i.out];exact D,(aB.refl _ _ _).Wj K⟩
 ·have i:Hid (aX w v ⟨b,y,x⟩=(0,{ w with We:=w.We++[v] })):=by show aX w v ⟨b,y,x⟩=_;simp[aX,O,k1,m,o,V,I,C]
  have E:Hid (bh w v=0):=(show bh w v=0 by simpa using C);have ad:=q.We;obtain⟨i0,G,J,L,N⟩:=Sr lA;have B:=D.Wj ((aa.refl [] W).alloc (.cells #[string v] 9));have c:=B.own 8;have ac:=D.lt;go_enter func207,ntmps207;go_upto_region 1 with fail
  rw[U.out];go_wp2_with (first | (go_at_call 232;refine(eI v _ Z).mono ?_;rintro e A ⟨rfl,rfl⟩) | (go_at_call 237;refine(px f T H n S w l v _ (by exact D) z X).mono ?_;rintro e A ⟨rfl,rfl⟩) | (at_builtin;refine aO _ rfl (.tmp 74) (.tmp 76) 61 rfl i0 (string ⟨#[]⟩) 16 (l 8) (aG w.We) underlying61 G J L N rfl So rfl (by exact c) ⟨_,0,none⟩ 1 1 [string v] rfl rfl ?c1 ?c2 So ?c3 ?c4 ?_))
  case c1=>intro j u t;match j,t with | 0,t=>simp at t;subst t;simp[Addr.add]
  case c2=>intro u Y;simp at Y;subst Y;rfl
  case c3=>simp only[aG];unfold maxLen;omega
  case c4=>simp only[aG];omega
  intro g k A r p a;obtain⟨O,f0,R⟩:=B.app (d':={ w with We:=w.We++[v] }) H 10 z 8 (by omega) g k ((aG w.We).n+1) _ r (fj w.We v) p (by simpa using a) (tV w l _) (by omega) _ rfl (by simp[cr,ip,aG]);clear B c q8 P s r p a F;go_wp2;go_ret;exact⟨au (by rw[i.out,E.out]),_,by rw[i.out];exact R.out.1,R.out.2.first (K.alloc _)⟩
theorem yJ(h:aV d f T n S w l)(F:n.length=H)(q:ge w 10000000)(U:v.size<=1073741824)(X:(w.kind==0)=false)(Y:(w.kind==6)=false)(m:(v.toList == [36,46])=false)(o:(v.toList == [36,61])=false)(N:dn v=false)(G:w.Wi=true) :
  iC f T H n S w l v b y x d:=by
 unfold iC;obtain⟨W,J,K,D,p0,p1,p2⟩:=boxed h b y x;clear h;obtain⟨Z,q1,q2,q3,q4,q5,q6,q7,q8,q9,z,A,ac⟩:=D.cells H F;clear Z q1 q2 q3 q4 q5 q6 q7 q9 z;have O:=D.free;rw[G]at A;have C:Hid (aX w v ⟨b,y,x⟩=(0,{ w with Wp:=w.Wp++[(v,⟨b,y,x⟩)] })):=by show aX w v ⟨b,y,x⟩=_;simp[aX,X,Y,m,o,N,G]
 have R:=q.Wp;obtain⟨V,p,r,s,t⟩:=Sr Pw;have M:=D.lt;have E:Hid (aV (W.alloc (.cells #[string v,string b,int i64 y,int i64 x] 229)).drew f T n S w l):=D.Wj ((aa.refl [] W).alloc _).drew;have s2:Hid (∀j u,(rF (v,⟨b,y,x⟩))[j]?=some u->(W.alloc (.cells #[string v,string b,int i64 y,int i64 x] 229)).drew.cell? ((⟨W.heap.size,0,none⟩:Addr).add j)=some u):=by
  intro j u P;have Q:(W.alloc (.cells #[string v,string b,int i64 y,int i64 x] 229)).drew.heap[W.heap.size]?=some (.cells #[string v,string b,int i64 y,int i64 x] 229):=R2 _ _;rw[bS,aj Q];simpa [rF] using P
 have s3:Hid (∀u∈rF (v,⟨b,y,x⟩),u.oneCell'=true):=by
  intro u I;simp only[rF,List.mem_cons,List.not_mem_nil,or_false]at I;rcases I with rfl | rfl | rfl | rfl <;> rfl
 have s4:Hid ((ic w.Wp).n+1<=maxLen):=by show _<=_;simp only[ic];unfold maxLen;omega
 have s5:Hid (((ic w.Wp).n+1)*48<=140737488355328):=by show _<=_;simp only[ic];omega
 go_enter func207,ntmps207;go_upto_region 1 with fail
 rw[J.out];go_wp2_with (go_at_call 232;refine(eI v _ U).mono ?_;rintro e w1 ⟨rfl,rfl⟩);go_region_law (refine cO rfl (.tmp 57) (.tmp 61) 156 rfl V (agg #[string ⟨#[]⟩,string ⟨#[]⟩,int i64 0,int i64 0]) 48 (l 9) (ic w.Wp) underlying156 p r s t rfl (Vh 3) (by simp[Act.eval] <;> rfl) (E.out.own 9) ⟨_,0,none⟩ 1 1 (rF (v,⟨b,y,x⟩)) (by simp[Act.eval] <;> rfl) rfl s2.out s3.out So s4.out s5.out ?_;intro g c w1 k i a;obtain⟨k5,f5,B⟩:=E.out.app (d':={ w with Wp:=w.Wp++[(v,⟨b,y,x⟩)] }) H 12 F 9 (by omega) g c ((ic w.Wp).n+1) _ k (J8 w.Wp (v,⟨b,y,x⟩)) i (by simpa using a) (xF w l _) (by omega) _ rfl (by simp[cr,ip,ic]);clear k i a)
 all_goals go_wp2
 all_goals go_ret
 all_goals exact⟨au (by rw[C.out]),_,by rw[C.out];exact B.out.1,B.out.2.first (K.trans ((aa.refl [] _).alloc _).drew)⟩
theorem FO(h:aV d f T n S w l)(s:n.length=H)(t:v.size<=1073741824)(m:(w.kind==0)=false)(o:(w.kind==6)=false)(c:(v.toList == [36,46])=false)(g:(v.toList == [36,61])=true) :
  iC f T H n S w l v b y x d:=by
 unfold iC;obtain⟨W,k,K,D,Q,R,U⟩:=boxed h b y x;clear h;obtain⟨E,F,G,I,J,L,M,N,V,O,p,i,q⟩:=D.cells H s;clear E F G I J L M N O p q;have C:=D.free;have r:=IR v g;cases u:(w.kind==5)
 ·have a:Hid (aX w v ⟨b,y,x⟩=(8,w)):=by show aX w v ⟨b,y,x⟩=_;simp[aX,m,o,c,u,r]
  go_enter func207,ntmps207;go_upto_region 1 with fail
  rw[k.out];go_wp2_with (go_at_call 232;refine(eI v _ t).mono ?_;rintro e P ⟨rfl,rfl⟩);go_ret;exact⟨au (by rw[a.out]),l,by rw[a.out];exact D,(aB.refl _ _ _).Wj K⟩
 ·cases j:w.Wi
  ·have a:Hid (aX w v ⟨b,y,x⟩=ce w):=(by show aX w v ⟨b,y,x⟩=_;simp only[aX,m,o,c,g,u,j];simp);rw[j]at i;go_enter func207,ntmps207;(go_upto_region 1 with fail);rw[k.out];go_wp2_with fail;refine(wy f T H n S w l _ (by exact D) s).mono ?_;rintro e X ⟨rfl,A,z,B⟩;go_wp2;go_ret;exact⟨au (by rw[a.out]),A,by rw[a.out];exact z,B.first K⟩
  ·have a:Hid (aX w v ⟨b,y,x⟩=(8,w)):=(by show aX w v ⟨b,y,x⟩=_;simp[aX,m,o,c,j,r]);rw[j]at i;go_enter func207,ntmps207;(go_upto_region 1 with fail);rw[k.out];go_wp2_with (go_at_call 232;refine(eI v _ t).mono ?_;rintro e P ⟨rfl,rfl⟩);go_ret;exact⟨au (by rw[a.out]),l,by rw[a.out];exact D,(aB.refl _ _ _).Wj K⟩
theorem Nr(h:aV d f T n S w l)(k:n.length=H)(M:ge w 10000000)(J:v.size<=1073741824)(L:Bx w 100000000) :
  iC f T H n S w l v b y x d:=by
 cases p:(w.kind==0)
 ·cases E:(w.kind==6)
  ·cases j:(v.toList == [36,46])
   ·cases m:(v.toList == [36,61])
    ·cases N:dn v
     ·cases U:w.Wi
      ·exact Dv f T H n S w l v b y x d h k M J p E j m N U
      ·exact yJ f T H n S w l v b y x d h k M J p E j m N U
     ·unfold iC;obtain⟨W,o,K,D,O,P,Q⟩:=boxed h b y x;clear h L;obtain⟨q,r,s,t,u,z,A,B,R,C,a,g,c⟩:=D.cells H k;clear q r s t u z A B C a c;have i:Hid (aX w v ⟨b,y,x⟩=(8,w)):=(by show aX w v ⟨b,y,x⟩=_;simp[aX,p,E,j,m,N]);go_enter func207,ntmps207;(go_upto_region 1 with fail);rw[o.out];go_wp2_with (go_at_call 232;refine(eI v _ J).mono ?_;rintro e X ⟨rfl,rfl⟩);go_ret;exact⟨au (by rw[i.out]),l,by rw[i.out];exact D,(aB.refl _ _ _).Wj K⟩
    ·exact FO f T H n S w l v b y x d h k J p E j m
   ·unfold iC;obtain⟨W,o,K,D,O,P,Q⟩:=boxed h b y x;clear h L;obtain⟨q,r,s,t,u,z,A,B,R,C,a,g,c⟩:=D.cells H k;clear q r s t u z A B C a g c;have i:Hid (aX w v ⟨b,y,x⟩=l9 w ⟨b,y,x⟩):=(by show aX w v ⟨b,y,x⟩=_;simp only[aX,p,E,j];simp);go_enter func207,ntmps207;(go_upto_region 1 with fail);rw[o.out];go_wp2_with fail;refine(N2 f T H n S w l b y x _ (by exact D) k M).mono ?_;rintro e V ⟨rfl,G,F,I⟩;go_wp2;go_ret;exact⟨au (by rw[i.out]),G,by rw[i.out];exact F,I.first K⟩
  ·unfold iC;obtain⟨W,o,K,D,O,P,Q⟩:=boxed h b y x;clear h L;obtain⟨q,r,s,t,u,z,A,B,R,C,a,g,c⟩:=D.cells H k;clear q r s t u z A B C a g c;have i:Hid (aX w v ⟨b,y,x⟩=aI w v):=(by show aX w v ⟨b,y,x⟩=_;simp only[aX,p,E];simp);go_enter func207,ntmps207;(go_upto_region 1 with fail);rw[o.out];go_wp2_with fail;refine(vM f T H n S w l v _ (by exact D) k).mono ?_;rintro e V ⟨rfl,G,F,I⟩;go_wp2;go_ret;exact⟨au (by rw[i.out]),G,by rw[i.out];exact F,I.first K⟩
 ·unfold iC;obtain⟨W,o,K,D,O,P,Q⟩:=boxed h b y x;clear h;obtain⟨q,r,s,t,u,z,A,B,R,C,a,g,c⟩:=D.cells H k;clear q r s t u z A B C a g c;have i:Hid (aX w v ⟨b,y,x⟩=aw w v):=by show aX w v ⟨b,y,x⟩=_;simp only[aX,p];simp
  go_enter func207,ntmps207;go_upto_region 1 with fail
  rw[o.out];go_wp2_with fail;refine(yH f T H n S w l v _ (by exact D) k M J L).mono ?_;rintro e V ⟨rfl,G,F,I⟩;go_wp2;go_ret;exact⟨au (by rw[i.out]),G,by rw[i.out];exact F,I.first K⟩
end Go.Proofs.YtnbhnocdhbcbcaaGreat
