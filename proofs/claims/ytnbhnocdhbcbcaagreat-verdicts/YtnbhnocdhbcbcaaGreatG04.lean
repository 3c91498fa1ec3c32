import Derived.Deep.RegionLaw
import Derived.Test.YtnbhnocdhbcbcaaGreatG03
namespace Go.Proofs.YtnbhnocdhbcbcaaGreat
open Go.RowKit Tryz
open Value IntKind Ending
set_option maxHeartbeats 0
variable{D z7 z5:Nat}{y1:Nat->Bool}{i:World}{z2:Hd}{z3:List ByteArray}{z4 z6:List Value}{H:Db}{S:Nat->Hd}(T:Nat)(v:List St)(k:Nat)(zt:World)(N:Hd)(I:List ByteArray)(f:Nat)(d a:List Value)(w:Db)(y0:St)(b:Nat->Hd)(o:List (Nat×Nat))(z0:Nat×Nat)(M:List Nat)(x:Nat)(g:List ByteArray)(y:ByteArray)(L:Int)(l:World)(z1:Nat->Hd)(zb:List (ByteArray×Pl))(n:Nat)
structure ge(d:Db)(N:Nat):Prop where
 Wm:d.Wm.length<=N
 Wg:d.Wg.length<=N
 Wh:d.Wh.length<=N
 Wn:d.Wn.length<=N
 Wq:d.Wq.length<=N
 blocks:d.blocks.length<=N
 Wv:d.Wv.length<=N
 rbl:d.rbl.length<=N
 We:d.We.length<=N
 Wp:d.Wp.length<=N
theorem qP:(⟨(aG I).e,(aG I).size,(aG I).n+g.length,(aG I).xs++eS g⟩:eB)=aG (I++g):=by
 simp[aG,eS]
theorem mw:∀u∈eS g,u.oneCell'=true:=by
 intro u a;simp only[eS,List.mem_map]at a;obtain⟨x,_,rfl⟩:=a;rfl
set_option maxRecDepth 100000
theorem uh(h:aV l T k d a w b)(G:d.length=f)(Q:0<w.We.length)(H:ge w 100000000) :
  Calls prog 266 #[pointer (some ⟨T,f,none⟩),slice (b 8).ao w.We.length (b 8).cap] l fun e I=>e=returned (tuple #[])/\∃B,aV I T k d a { w with Wg:=w.Wg++w.We } B/\aB T l b I B:=by
 obtain⟨R,M,t,v,x⟩:=Sr lA;obtain⟨S,U,V,W,X,Y,Z,q7,q8,q9,y,z,A⟩:=h.cells f G;have s:=h.free;have L:=h.lt;have i:=h.own 1;have o:aC l (b 8) (aG w.We):=h.own 8;have O:=H.Wg;have P:=H.We;rcases o.Wu with ⟨_,K,_⟩ | ⟨F,D,E,_⟩
 ·have:w.We.length=0:=K;omega
 ·rw[E];have m:Hid (∀j u,(eS w.We)[j]?=some u->l.cell? ((⟨F,0,none⟩:Addr).add j)=some u):=fun j u N=>by rw[bS];exact o.cell E j u N
  clear o;go_enter func266,ntmps266;go_wp2_with (at_builtin;refine aO _ rfl (.tmp 8) (.tmp 9) 61 rfl R (string ⟨#[]⟩) 16 (b 1) (aG w.Wg) underlying61 M t v x rfl So rfl i ⟨F,0,none⟩ w.We.length (b 8).cap (eS w.We) rfl ?c0 m.out (mw _) Q ?c3 ?c4 ?_)
  case c0=>simp[eS,aG]
  case c3=>simp only[aG];unfold maxLen;omega
  case c4=>simp only[aG];omega
  ·intro g p w1 r q c;obtain⟨k0,f0,C⟩:=h.app (d':={ w with Wg:=w.Wg++w.We }) f 1 G 1 (by omega) g p ((aG w.Wg).n+w.We.length) _ r (qP w.Wg w.We) q c (xE w b _) (by omega) _ rfl (by simp[cr,ip,aG]);clear i S U V W X Y Z q7 q8 q9 y z A r q c s m;go_wp2;go_end0;exact⟨rfl,_,C.out.1,C.out.2⟩
def eF(v l:List ByteArray):List ByteArray:=l.foldl (fun v x=>if aJ v x=true then v else v++[x]) v
def dW(d:Db)(k:Nat):Db:={ d with Wn:=d.Wn++d.We,Wh:=eF d.Wh (d.We.take k) }
theorem KD:eF I (g++[y])=if aJ (eF I g) y=true then eF I g else eF I g++[y]:=by
 unfold eF;rw[Uj];rfl
theorem DG(v l:List ByteArray):(eF v l).length<=v.length+l.length:=by
 induction l generalizing v with
 | nil=>simp[eF]
 | cons x l a =>
  have:=a (if aJ v x=true then v else v++[x]);have e:eF v (x :: l)=eF (if aJ v x=true then v else v++[x]) l:=rfl;rw[e];have b:(if aJ v x=true then v else v++[x]).length<=v.length+1:=by split <;> simp
  simp only[List.length_cons];omega
theorem lS{α:Type}(l:List α)(k:Nat)(h:k<l.length):l.take (k+1)=l.take k++[l[k]]:=by simp
theorem ui(h:aV l T k d a w b)(I:d.length=f)(hm:0<w.We.length)(hs:ge w 100000000) :
  Calls prog 267 #[pointer (some ⟨T,f,none⟩),slice (b 8).ao w.We.length (b 8).cap] l fun e w'=>e=returned (tuple #[])/\∃H',aV w' T k d a (dW w w.We.length) H'/\aB T l b w' H':=by
 obtain⟨i0,hi,K,L,M⟩:=Sr lA;obtain⟨N,O,q2,P,Q,R,S,U,V,W,z,A,B⟩:=h.cells f I;have C:=h.free;have ag:=h.lt;have E:=h.own 3;have q:aC l (b 8) (aG w.We):=h.own 8;have ai:=hs.Wn;have al:=hs.We;have an:=hs.Wh;rcases q.Wu with ⟨_,h0,_⟩ | ⟨g8,ac,e8,_⟩
 ·have:w.We.length=0:=h0;omega
 ·rw[e8];have F:Hid (∀j u,(eS w.We)[j]?=some u->l.cell? ((⟨g8,0,none⟩:Addr).add j)=some u):=fun j u hj=>by rw[bS];exact q.cell e8 j u hj
  clear q;go_enter func267,ntmps267;go_wp2_with (at_builtin;refine aO _ rfl (.tmp 9) (.tmp 10) 61 rfl i0 (string ⟨#[]⟩) 16 (b 3) (aG w.Wn) underlying61 hi K L M rfl So rfl E ⟨g8,0,none⟩ w.We.length (b 8).cap (eS w.We) rfl ?c0 F.out (mw _) hm ?c3 ?c4 ?_)
  case c0=>simp[eS,aG]
  case c3=>simp only[aG];unfold maxLen;omega
  case c4=>simp only[aG];omega
  ·intro g s w1 v t m;obtain⟨k0,f0,G⟩:=h.app (d':=dW w 0) f 3 I 3 (by omega) g s ((aG w.Wn).n+w.We.length) _ v (qP w.Wn w.We) t m (vv w b _) (by omega) _ rfl (by simp[cr,ip,aG,dW,eF]);clear E N O q2 P Q R S U V W z A B v t m C F;go_wp2
   go_loopg [4] w.We.length (fun g i wr=>∃(c:Nat) (p:Nat->Hd),c<=w.We.length/\g=w.We.length-c/\i=int i64 c/\p 8=b 8/\aV wr T k d a (dW w c) p/\aB T l b wr p)
   case atStart=>exact⟨0,_,by omega,by omega,rfl,by simp[ip],G.out.1,G.out.2⟩
   case round =>
    obtain⟨c,p,hk,hg,rfl,h8,D,Z⟩:=hrel;clear G k0 f0;by_cases H:c<w.We.length
    ·obtain⟨N,O,q2,P,Q,R,S,U,V,W,z,A,B⟩:=D.cells f I;have q:aC wr (b 8) (aG w.We):=(by have:=D.own 8;rw[h8]at this;exact this);have c1:=q.cell e8 c (string w.We[c]) (t9 w.We c H);have J:(dW w c).Wh.length<=1073741824:=by
      have:=DG w.Wh (w.We.take c);simp only[List.length_take]at this
      show(eF w.Wh (w.We.take c)).length<=_
      omega
     have C:=D.free;have Y:Hid (dW w (c+1)=if aJ (dW w c).Wh w.We[c]=true then dW w c else { dW w c with Wh:=(dW w c).Wh++[w.We[c]] }):=by
      show dW w (c+1)=_;unfold dW;rw[lS w.We c H,KD];simp only;split <;> rfl
     generalize dW w c=o at *;generalize w.We[c]=x at *;clear N O P Q R S U V W z A B q;cases hb:aJ o.Wh x
     ·have HT:Hid (dW w (c+1)={ o with Wh:=o.Wh++[x] }):=(by show dW w (c+1)=_;rw[Y.out];simp[hb]);clear Y;go_wp2_with fail;go_quiet ((go_at_call 254;exact Ss (ff (p 2) o.Wh x _ (D.Wj ((aa.refl [] _).drewN _) |>.own 2) J)));obtain⟨r,y⟩:∃r,r=wr.drewN nq:=⟨_,rfl⟩
      rw[<-y];have X:aV r T k d a o p:=by rw[y];exact D.Wj ((aa.refl [] _).drewN _)
      have T2:aB T l b r p:=(by rw[y];exact Z.Wj ((aa.refl [] _).drewN _));have ad:r.cell? ⟨g8,c,none⟩=some (string x):=(by rw[y];exact c1);clear y c1 D Z C q2;obtain⟨N,O,q2,P,Q,R,S,U,V,W,z,A,B⟩:=X.cells f I;have C:=X.free;have af:=X.lt;clear N O P Q R S U V W z A B;have hD:Hid (aV (r.alloc (.cells #[string x] 9)).drew T k d a o p):=X.Wj ((aa.refl [] r).alloc _).drew;have s2:Hid (∀j u,([string x]:List Value)[j]?=some u->(r.alloc (.cells #[string x] 9)).drew.cell? ((⟨r.heap.size,0,none⟩:Addr).add j)=some u):=by
       intro j u hj;have hk:(r.alloc (.cells #[string x] 9)).drew.heap[r.heap.size]?=some (.cells #[string x] 9):=R2 r _;rw[bS,aj hk];simpa using hj
      have s3:Hid (∀u∈([string x]:List Value),u.oneCell'=true):=(by intro u hu;simp at hu;subst hu;rfl);have s4:Hid ((aG o.Wh).n+1<=maxLen):=(by show _<=_;simp only[aG];unfold maxLen;omega);have s5:Hid (((aG o.Wh).n+1)*16<=140737488355328):=(by show _<=_;simp only[aG];omega);go_wp2_with fail;go_region_law (refine cO rfl (.tmp 34) (.tmp 39) 61 rfl i0 (string ⟨#[]⟩) 16 (p 2) (aG o.Wh) underlying61 hi K L M rfl So (by simp[Act.eval] <;> rfl) (hD.out.own 2) ⟨r.heap.size,0,none⟩ 1 1 [string x] (by simp[Act.eval]) rfl s2.out s3.out So s4.out s5.out ?_;intro g s w1 v t m;obtain⟨k5,f5,G⟩:=hD.out.app (d':={ o with Wh:=o.Wh++[x] }) f 2 I 2 (by omega) g s ((aG o.Wh).n+1) _ v (fj o.Wh x) t (by simpa using m) (xH o p _) (by omega) _ rfl (by simp[cr,ip,aG]);clear v t m)
      all_goals go_wp2
      all_goals
       go_roundg (w.We.length-(c+1))
       case measure=>omega
       case rel=>exact⟨c+1,_,by omega,rfl,by go_num,by simp[ip,h8],by rw[HT.out];exact G.out.1,T2.trans (G.out.2.first ((aa.refl [] _).alloc _).drew)⟩
     ·have HT:Hid (dW w (c+1)=o):=(by show dW w (c+1)=_;rw[Y.out];simp[hb]);clear Y;go_wp2_with fail;go_quiet ((go_at_call 254;exact Ss (ff (p 2) o.Wh x _ (D.Wj ((aa.refl [] _).drewN _) |>.own 2) J)));go_wp2;go_roundg (w.We.length-(c+1))
      case measure=>omega
      case rel=>exact⟨c+1,p,by omega,rfl,by go_num,h8,by rw[HT.out];exact D.Wj ((aa.refl [] _).drewN _),Z.Wj ((aa.refl [] _).drewN _)⟩
    ·have e:c=w.We.length:=(by omega);subst e;go_wp2;go_end0;exact⟨rfl,p,D,Z⟩
def jR(n:Int):Bool:=(decide (97<=n)&&decide (n<=122))||(decide (65<=n)&&decide (n<=90))||(decide (48<=n)&&decide (n<=57))||n==45||n==95||n==46
def ia(s:ByteArray):Bool:=(List.range s.size).all (fun i=>jR (aH s i))
set_option maxRecDepth 512
theorem pB :
  Calls prog 276 #[int u8 L] l fun e g=>e=returned (bool (jR L))/\g=l:=by
 by_cases b:(97<=L/\L<=122)∨(65<=L/\L<=90)∨(48<=L/\L<=57)
 ·have a:Hid (jR L=true):=by show jR L=true;simp only[jR,Bool.or_eq_true,Bool.and_eq_true,decide_eq_true_eq];omega
  rcases b with b | b | b
  all_goals
   go_enter func276,ntmps276;go_wp2;go_ret;exact⟨aE a.out.symm,rfl⟩
 ·have a:Hid (jR L=(L==45||L==95||L==46)):=by
   show jR L=_;have c:(decide (97<=L)&&decide (L<=122))=false:=(by simp;omega);have d:(decide (65<=L)&&decide (L<=90))=false:=(by simp;omega);have f:(decide (48<=L)&&decide (L<=57))=false:=(by simp;omega);simp only[jR,c,d,f,Bool.false_or]
  go_enter func276,ntmps276;go_wp2
  all_goals go_ret
  all_goals (refine⟨aE ?_,rfl⟩;first | rfl | (rw[a.out];done) | (rw[a.out];simp[*];done))
theorem Eb(h:n<D)(a:y1 n=false):(List.range D).all y1=false:=by
 rw[Ve];exact⟨n,by simpa using h,by simp[a]⟩
theorem Aa(h:∀i,i<D->y1 i=true):(List.range D).all y1=true:=by
 rw[Tb];intro i a;exact h i (by simpa using a)
theorem nK(p:y.size<=1073741824) :
  Calls prog 264 #[string y] l fun e j=>e=returned (bool (ia y))/\j=l:=by
 go_enter func264,ntmps264;go_wp2
 go_loopg [3] y.size (fun g i wr=>∃k:Nat,k<=y.size/\g=y.size-k/\i=int i64 k/\Hid (∀i,i<k->jR (aH y i)=true)/\wr=l)
 case atStart=>exact⟨0,by omega,by omega,rfl,fun i h=>by omega,rfl⟩
 case round =>
  obtain⟨k,o,n,rfl,a,rfl⟩:=hrel;by_cases b:k<y.size
  ·cases d:jR (y[k].toNat:Int)
   ·have c:Hid (ia y=false):=Eb k b (by rw[bU y k b];exact d);go_wp2_with fail;refine(pB _ _).mono ?_;rintro e m ⟨rfl,rfl⟩;go_wp2;go_ret;exact⟨aE c.out.symm,rfl⟩
   ·go_wp2_with fail;refine(pB _ _).mono ?_;rintro e m ⟨rfl,rfl⟩;go_wp2;go_roundg (y.size-(k+1))
    case measure=>omega
    case rel =>
     refine⟨k+1,by omega,rfl,by go_num,?_,rfl⟩;intro i f;by_cases e:i=k
     ·subst e;rw[bU y i b];exact d
     ·exact a.out i (by omega)
  ·have c:Hid (ia y=true):=Aa (fun i f=>a.out i (by omega));go_wp2;go_ret;exact⟨aE c.out.symm,rfl⟩
theorem kN(h:aV l T k d a w b)(g:d.length=f)(c:w.Wn.length<=1073741824) :
  Calls prog 270 #[pointer (some ⟨T,f,none⟩),string y] l fun e n=>e=returned (bool (aJ w.Wn y))/\n=l:=by
 obtain⟨o,p,q,r,s,t,u,v,x,z,i,j,m⟩:=h.cells f g;go_enter func270,ntmps270;go_wp2_with fail;refine(ff (b 3) w.Wn y _ (by exact h.own 3) c).mono ?_;rintro e A ⟨rfl,rfl⟩;go_wp2;go_ret;exact⟨rfl,rfl⟩
theorem nj(h:aV l T k d a w b)(g:d.length=f)(c:w.Wg.length<=1073741824) :
  Calls prog 271 #[pointer (some ⟨T,f,none⟩),string y] l fun e n=>e=returned (bool (aJ w.Wg y))/\n=l:=by
 obtain⟨o,p,q,r,s,t,u,v,x,z,i,j,m⟩:=h.cells f g;go_enter func271,ntmps271;go_wp2_with fail;refine(ff (b 1) w.Wg y _ (by exact h.own 1) c).mono ?_;rintro e A ⟨rfl,rfl⟩;go_wp2;go_ret;exact⟨rfl,rfl⟩
theorem nL(h:aV l T k d a w b)(g:d.length=f)(c:w.Wq.length<=1073741824) :
  Calls prog 272 #[pointer (some ⟨T,f,none⟩),string y] l fun e n=>e=returned (bool (aJ w.Wq y))/\n=l:=by
 obtain⟨o,p,q,r,s,t,u,v,x,z,i,j,m⟩:=h.cells f g;go_enter func272,ntmps272;go_wp2_with fail;refine(ff (b 4) w.Wq y _ (by exact h.own 4) c).mono ?_;rintro e A ⟨rfl,rfl⟩;go_wp2;go_ret;exact⟨rfl,rfl⟩
def dU(d:Db)(x:ByteArray):Bool:=aJ d.Wm x||aJ d.Wg x||aJ d.Wh x
def eJ(d:Db)(x:ByteArray):Bool:=aJ d.Wm x||aJ d.Wg x||aJ d.Wn x
theorem me(h:aV l T k d a w b)(n:d.length=f)(c:ge w 1073741824) :
  Calls prog 255 #[pointer (some ⟨T,f,none⟩),string y] l fun e r=>e=returned (bool (dU w y))/\r=l:=by
 obtain⟨s,t,u,v,x,z,A,B,C,D,o,p,q⟩:=h.cells f n;cases j:aJ w.Wm y
 ·cases m:aJ w.Wg y
  ·have g:Hid (dU w y=aJ w.Wh y):=(by show dU w y=_;simp[dU,j,m]);go_enter func255,ntmps255;go_wp2_with fail;refine(ff (b 0) w.Wm y _ (by exact h.own 0) c.Wm).mono ?_;rintro e i ⟨rfl,rfl⟩;go_wp2_with fail;refine(ff (b 1) w.Wg y _ (by exact h.own 1) c.Wg).mono ?_;rintro e i ⟨rfl,rfl⟩;go_wp2_with fail;refine(ff (b 2) w.Wh y _ (by exact h.own 2) c.Wh).mono ?_;rintro e i ⟨rfl,rfl⟩;go_wp2;go_ret;exact⟨aE (by rw[g.out]),rfl⟩
  ·have g:Hid (dU w y=true):=(by show dU w y=_;simp[dU,j,m]);go_enter func255,ntmps255;go_wp2_with fail;refine(ff (b 0) w.Wm y _ (by exact h.own 0) c.Wm).mono ?_;rintro e i ⟨rfl,rfl⟩;go_wp2_with fail;refine(ff (b 1) w.Wg y _ (by exact h.own 1) c.Wg).mono ?_;rintro e i ⟨rfl,rfl⟩;go_wp2;go_ret;exact⟨aE (by rw[g.out]),rfl⟩
 ·have g:Hid (dU w y=true):=by show dU w y=_;simp[dU,j]
  go_enter func255,ntmps255;go_wp2_with fail;refine(ff (b 0) w.Wm y _ (by exact h.own 0) c.Wm).mono ?_;rintro e i ⟨rfl,rfl⟩;go_wp2;go_ret;exact⟨aE (by rw[g.out]),rfl⟩
theorem AA(h:aV l T k d a w b)(n:d.length=f)(c:ge w 1073741824) :
  Calls prog 256 #[pointer (some ⟨T,f,none⟩),string y] l fun e r=>e=returned (bool (eJ w y))/\r=l:=by
 obtain⟨s,t,u,v,x,z,A,B,C,D,o,p,q⟩:=h.cells f n;cases j:aJ w.Wm y
 ·cases m:aJ w.Wg y
  ·have g:Hid (eJ w y=aJ w.Wn y):=(by show eJ w y=_;simp[eJ,j,m]);go_enter func256,ntmps256;go_wp2_with fail;refine(ff (b 0) w.Wm y _ (by exact h.own 0) c.Wm).mono ?_;rintro e i ⟨rfl,rfl⟩;go_wp2_with fail;refine(ff (b 1) w.Wg y _ (by exact h.own 1) c.Wg).mono ?_;rintro e i ⟨rfl,rfl⟩;go_wp2_with fail;refine(ff (b 3) w.Wn y _ (by exact h.own 3) c.Wn).mono ?_;rintro e i ⟨rfl,rfl⟩;go_wp2;go_ret;exact⟨aE (by rw[g.out]),rfl⟩
  ·have g:Hid (eJ w y=true):=(by show eJ w y=_;simp[eJ,j,m]);go_enter func256,ntmps256;go_wp2_with fail;refine(ff (b 0) w.Wm y _ (by exact h.own 0) c.Wm).mono ?_;rintro e i ⟨rfl,rfl⟩;go_wp2_with fail;refine(ff (b 1) w.Wg y _ (by exact h.own 1) c.Wg).mono ?_;rintro e i ⟨rfl,rfl⟩;go_wp2;go_ret;exact⟨aE (by rw[g.out]),rfl⟩
 ·have g:Hid (eJ w y=true):=by show eJ w y=_;simp[eJ,j]
  go_enter func256,ntmps256;go_wp2_with fail;refine(ff (b 0) w.Wm y _ (by exact h.own 0) c.Wm).mono ?_;rintro e i ⟨rfl,rfl⟩;go_wp2;go_ret;exact⟨aE (by rw[g.out]),rfl⟩
theorem md(h:aV l T k d a w b)(c:d.length=f) :
  Calls prog 208 #[pointer (some ⟨T,f,none⟩)] l fun e m=>e=returned (bool (decide (0<w.blocks.length)))/\m=l:=by
 obtain⟨n,o,p,q,r,s,t,u,v,x,g,i,j⟩:=h.cells f c;go_enter func208,ntmps208;go_wp2;go_ret;exact⟨rfl,rfl⟩
def lB(d:Db):Bool:=d.kind != 0||decide (0<d.blocks.length)
theorem tK(h:aV l T k d a w b)(i:d.length=f) :
  Calls prog 159 #[pointer (some ⟨T,f,none⟩)] l fun e o=>e=returned (bool (lB w))/\o=l:=by
 obtain⟨p,q,r,s,t,u,v,x,y,z,j,m,n⟩:=h.cells f i;cases g:(w.kind != 0)
 ·have c:Hid (lB w=decide (0<w.blocks.length)):=by show lB w=_;simp only[lB,g,Bool.false_or]
  go_enter func159,ntmps159;go_wp2_with fail;refine(md T k f d a w b _ h i).mono ?_;rintro e A ⟨rfl,rfl⟩;go_wp2;go_ret;exact⟨aE (by rw[c.out]),rfl⟩
 ·have c:Hid (lB w=true):=by show lB w=_;simp only[lB,g,Bool.true_or]
  go_enter func159,ntmps159;go_wp2_with fail;go_ret;exact⟨aE (by rw[c.out]),rfl⟩
def mA(d:Db):Int:=if(d.kind==1)=true∨(d.kind==2)=true then 2 else 1
theorem uC(h:aV l T k d a w b)(j:d.length=f) :
  Calls prog 252 #[pointer (some ⟨T,f,none⟩)] l fun e p=>e=returned (int i64 (mA w))/\p=l:=by
 obtain⟨q,r,s,t,u,v,x,y,z,A,m,n,o⟩:=h.cells f j;cases g:(w.kind==1)
 ·cases i:(w.kind==2)
  all_goals
   have c:Hid (mA w=if(w.kind==1)=true∨(w.kind==2)=true then 2 else 1):=rfl;go_enter func252,ntmps252;go_wp2;go_ret;exact⟨au (by rw[c.out,g,i];simp),rfl⟩
 ·have c:Hid (mA w=2):=by show mA w=_;simp only[mA,g];simp
  go_enter func252,ntmps252;go_wp2;go_ret;exact⟨au (by rw[c.out]),rfl⟩
theorem IU(o:aC l N (aG I))(r:x<=1073741824) :
  Calls prog 263 #[slice N.ao I.length N.cap,int i64 x] l fun e s=>e=returned (slice N.ao (if x<=I.length then x else I.length) N.cap)/\s=l:=by
 obtain⟨t,c⟩:=N;by_cases a:x<=I.length
 ·rcases o.Wu with ⟨d,n,_⟩ | ⟨g,p,i,j,k,m,_⟩
  ·have b:I.length=0:=n;have f:x=0:=(by omega);subst f
   injection d with d j
   subst d j;simp only[if_pos a];rw[b];clear o n a b r;go_enter func263,ntmps263;go_wp2;go_ret;exact⟨rfl,rfl⟩
  ·simp only at i k m;have q:I.length<=c:=k;unfold maxLen at m;subst i;simp only[if_pos a];go_enter func263,ntmps263;go_wp2;go_ret;exact⟨rfl,rfl⟩
 ·simp only[if_neg a];go_enter func263,ntmps263;go_wp2;go_ret;exact⟨rfl,rfl⟩
theorem aC.cut(o:aC i z2 (aG z3))(c:Nat)(t:c<=z3.length):aC i z2 (aG (z3.take c)):=by
 have d:(z3.take c).length=c:=by simp;omega
 rcases o.Wu with ⟨m,q,_⟩ | ⟨g,b,f,n,j,k,l,p⟩
 ·have r:z3.length=0:=q;have:c=0:=by omega
  subst this;subst m;exact⟨by simp[aG,eS],R4 ⟨by simp[aG],by simp[aG]⟩⟩
 ·obtain⟨s,a⟩:=z2;simp only at f j k l;subst f;refine⟨by simp[aG,eS],RZ ⟨g,a,b,rfl,SE _,n,?_,k,l,?_⟩⟩
  ·have:z3.length<=a:=j;simp only[aG];omega
  ·have e:b.toList.take (z3.length*1)=eS z3:=p;simp only[aG,d];have:eS (z3.take c)=(eS z3).take c:=by simp[eS,List.map_take]
   rw[this,<-e,VF];congr 1;omega
theorem QR:(prog.info? 337).map (fun i=>(i.zero,i.size,i.bytes))=some (some (agg #[int i64 0,int i64 0]),2,16):=by kernel_rfl
theorem se:qh (o++[z0])=qh o++[int i64 z0.1,int i64 z0.2]:=by simp[qh]
theorem J1:(⟨(oy o).e,(oy o).size,(oy o).n+1,(oy o).xs++[int i64 z0.1,int i64 z0.2]⟩:eB)=oy (o++[z0]):=by
 simp[oy,se]
set_option maxRecDepth 100000
theorem wt(h:aV l T k d a w b)(y:d.length=f)(P:w.blocks.length<=1073741824) :
  Calls prog 247 #[pointer (some ⟨T,f,none⟩)] l fun e A=>e=returned (tuple #[])/\∃t,aV A T k d a { w with blocks:=w.blocks++[(w.Wn.length,w.Wq.length)] } t/\aB T l b A t:=by
 obtain⟨G,D,q,r,s⟩:=Sr QR;obtain⟨R,S,U,V,W,X,Y,Z,q8,q9,H,I,J⟩:=h.cells f y;have C:=h.free;have B:=h.lt;have x:Hid (aV (l.alloc (.cells #[int i64 w.Wn.length,int i64 w.Wq.length] 337)).drew T k d a w b):=h.Wj ((aa.refl [] l).alloc _).drew;have K:Hid (∀j u,([int i64 w.Wn.length,int i64 w.Wq.length]:List Value)[j]?=some u->(l.alloc (.cells #[int i64 w.Wn.length,int i64 w.Wq.length] 337)).drew.cell? ((⟨l.heap.size,0,none⟩:Addr).add j)=some u):=by
  intro j u E;rw[bS];have F:(l.alloc (.cells #[int i64 w.Wn.length,int i64 w.Wq.length] 337)).drew.heap[l.heap.size]?=some (.cells #[int i64 w.Wn.length,int i64 w.Wq.length] 337):=R2 _ _;rw[aj F];simpa using E
 have L:Hid (∀u∈([int i64 w.Wn.length,int i64 w.Wq.length]:List Value),u.oneCell'=true):=by
  intro u z;simp at z;rcases z with rfl | rfl <;> rfl
 have M:Hid ((oy w.blocks).n+1<=maxLen):=by show _<=_;simp only[oy];unfold maxLen;omega
 have N:Hid (((oy w.blocks).n+1)*16<=140737488355328):=by show _<=_;simp only[oy];omega
 clear h;go_enter func247,ntmps247;go_wp2_with fail;go_region_law (refine cO rfl (.tmp 6) (.tmp 18) 194 rfl G (agg #[int i64 0,int i64 0]) 16 (b 5) (oy w.blocks) underlying194 D q r s rfl VN (by simp[Act.eval] <;> rfl) (x.out.own 5) ⟨l.heap.size,0,none⟩ 1 1 [int i64 w.Wn.length,int i64 w.Wq.length] (by simp[Act.eval]) rfl K.out L.out So M.out N.out ?_;intro g m w1 p o c;obtain⟨Q,O,v⟩:=x.out.app (d':={ w with blocks:=w.blocks++[(w.Wn.length,w.Wq.length)] }) f 5 y 5 (by omega) g m ((oy w.blocks).n+1) _ p (J1 w.blocks (w.Wn.length,w.Wq.length)) o (by simpa using c) (vw w b _) (by omega) _ rfl (by simp[cr,ip,oy]);clear p o c)
 all_goals go_wp2
 all_goals go_end0
 all_goals exact⟨rfl,_,v.out.1,v.out.2.first ((aa.refl [] l).alloc _).drew⟩
theorem pb(l:List (Nat×Nat)):(qh l).length=l.length*2:=by
 induction l with
 | nil=>rfl
 | cons a r b=>simp only[qh,List.flatMap_cons,List.length_append,List.length_cons,List.length_nil]at *;omega
theorem xo:(qh (o++[z0]))[o.length*2]?=some (int i64 z0.1)/\(qh (o++[z0]))[o.length*2+1]?=some (int i64 z0.2):=by
 rw[se];have:=pb o;constructor
 ·rw[Sf (by omega),this];simp
 ·rw[Sf (by omega),this];simp
theorem aC.pop{l:List (Nat×Nat)}{x:Nat×Nat}(o:aC i z2 (oy (l++[x]))):aC i z2 (oy l):=by
 rcases o.Wu with ⟨t,r,_⟩ | ⟨g,b,f,n,j,k,m,p⟩
 ·have e:(l++[x]).length=0:=r;simp at e
 ·obtain⟨s,a⟩:=z2;simp only at f j k m;subst f;have c:(l++[x]).length<=a:=j;simp at c;refine⟨by simp only[oy];exact pb l,RZ ⟨g,a,b,rfl,SE _,n,?_,k,m,?_⟩⟩
  ·simp only[oy];omega
  ·have d:b.toList.take ((l++[x]).length*2)=qh (l++[x]):=p;simp only[oy];have q:qh l=(qh (l++[x])).take (l.length*2):=by rw[se,List.take_left' (pb l)]
   rw[q,<-d,VF];congr 1;simp
def de(d:Db)(bl:List (Nat×Nat))(x:Nat×Nat):Db:={ d with blocks:=bl,Wn:=d.Wn.take x.1,Wq:=d.Wq.take x.2 }
theorem Nt:(g.take n).length=if n<=g.length then n else g.length:=by
 rw[To];split <;> omega
theorem aC.taken(o:aC i z2 (aG z3))(c:Nat):aC i z2 (aG (z3.take c)):=by
 by_cases a:c<=z3.length
 ·exact o.cut c a
 ·rw[Uk (by omega)];exact o
theorem wV(b:Hid ((I.take f).length=x))(c:aC l N (aG I))(a:f<=1073741824) :
  Calls prog 263 #[slice N.ao I.length N.cap,int i64 f] l fun e d=>e=returned (slice N.ao x N.cap)/\d=l:=by
 have e:x=if f<=I.length then f else I.length:=by rw[<-b.out,Nt]
 rw[e];exact IU N I f l c a
theorem qF{d':Db}(h:aV i D z7 z4 z6 H S)(e:z4.length=z5)(c:x<10)(g:aC i (S x) (aY d' S x))(a:∀j,j≠x->aY d' S j=aY H S j)(u:Value)(b:n<13)(d:(cr H S).set n u=cr d' (ip S x (S x))) :
  aV (i.setCell ⟨D,z5+n,none⟩ u) D z7 z4 z6 d' S/\aB D i S (i.setCell ⟨D,z5+n,none⟩ u) S:=by
 have f:=Nz S x;have:=h.put (d':=d') z5 n e x c (S x) g (VG _ _) (RZ (R4 rfl)) a u b d;rw[f]at this;exact this
theorem Ao(h:aV l T k d a w b)(B:d.length=f)(F:w.blocks=o++[z0])(hs:ge w 1073741824)(hx:z0.1<=1073741824/\z0.2<=1073741824) :
  Calls prog 249 #[pointer (some ⟨T,f,none⟩)] l fun e w'=>e=returned (tuple #[])/\aV w' T k d a (de w o z0) b/\aB T l b w' b:=by
 obtain⟨M,N,O,P,Q,z,R,S,U,V,s,t,u⟩:=h.cells f B;obtain⟨i,n⟩:=z0;simp only at hx;have r:=h.free;have ap:=h.lt;have I:=h.own 5;have j:aC l (b 5) (oy (o++[(i,n)])):=by have:=I;simp only[aY,F]at this;exact this
 have y:=hs.blocks;rw[F]at y z;simp only[List.length_append,List.length_cons,List.length_nil]at y z;rcases j.Wu with ⟨e0,h0,_⟩ | ⟨g,an,L,e2,e3,Y,e5,e6⟩
 ·have Z:(o++[(i,n)]).length=0:=h0;simp at Z
 ·have p1:=j.cell L (o.length*2) _ (xo o (i,n)).1;have p2:=j.cell L (o.length*2+1) _ (xo o (i,n)).2;have ag:o.length+1<=(b 5).cap:=by have:(o++[(i,n)]).length<=(b 5).cap:=e3;simpa using this
  have ad:(b 5).cap<=9223372036854775807:=by unfold maxLen at Y;exact Y
  have hg:=ae e2;have W:=qF 5 5 (d':={ w with blocks:=o }) h B (by omega) j.pop (vw w b o) (slice (some ⟨g,0,none⟩) o.length (b 5).cap) (by omega) (by simp[cr,ip,L]);obtain⟨v,p⟩:∃v,v=(l.setCell ⟨T,f+5,none⟩ (slice (some ⟨g,0,none⟩) o.length (b 5).cap)).alloc (.cells #[int i64 i,int i64 n] 337):=⟨_,rfl⟩
  have A:aV v T k d a { w with blocks:=o } b:=by rw[p];exact W.1.Wj ((aa.refl [] _).alloc _)
  have T2:aB T l b v b:=by rw[p];exact W.2.Wj ((aa.refl [] _).alloc _)
  have K:v.heap[l.heap.size]?=some (.cells #[int i64 i,int i64 n] 337):=by
   rw[p];have:=R2 (l.setCell ⟨T,f+5,none⟩ (slice (some ⟨g,0,none⟩) o.length (b 5).cap)) (.cells #[int i64 i,int i64 n] 337);simpa [World.setCell] using this
  have HW:Hid ((l.setCell ⟨T,f+5,none⟩ (slice (some ⟨g,0,none⟩) o.length (b 5).cap)).alloc (.cells #[int i64 i,int i64 n] 337)=v):=p.symm;have ai:=hs.Wn;have al:=hs.Wq;rw[L]at z;simp only at p1 p2;clear I j e3 Y e5 e6 e2 h W p;go_enter func249,ntmps249;go_upto_region 4 with fail
  rw[HW.out];obtain⟨c0,c1⟩:=Ai K;have af:l.heap.size≠T:=by omega
  have ac:=ae K;clear HW M N O P Q z R S U V s t u p1 p2 r hg;obtain⟨M,N,O,P,Q,z,R,S,U,V,s,t,u⟩:=A.cells f B;have r:=A.free;obtain⟨J,G⟩:∃m,Hid ((w.Wn.take i).length=m):=⟨_,rfl⟩
  obtain⟨m2,H⟩:∃m,Hid ((w.Wq.take n).length=m):=⟨_,rfl⟩
  have X:=qF 3 3 (d':={ w with blocks:=o,Wn:=w.Wn.take i }) A B (by omega) ((A.own 3).taken i) (vv { w with blocks:=o } b (w.Wn.take i)) (slice (b 3).ao J (b 3).cap) (by omega) (by simp only[cr,dw,<-G.out];rfl);obtain⟨x,q⟩:∃x,x=(v.setCell ⟨T,f+3,none⟩ (slice (b 3).ao J (b 3).cap)).drew:=⟨_,rfl⟩
  have C:Hid (aV x T k d a { w with blocks:=o,Wn:=w.Wn.take i } b):=by rw[q];exact X.1.Wj (aa.refl [] _).drew
  have T3:Hid (aB T l b x b):=by rw[q];exact T2.trans (X.2.Wj (aa.refl [] _).drew)
  have B3:Hid (x.heap[l.heap.size]?=some (.cells #[int i64 i,int i64 n] 337)):=by
   show x.heap[l.heap.size]?=_;rw[q];exact(Sg v ⟨T,f+3,none⟩ (slice (b 3).ao J (b 3).cap) l.heap.size af).trans K
  have E:Hid ((v.setCell ⟨T,f+3,none⟩ (slice (b 3).ao J (b 3).cap)).drew=x):=q.symm;clear q X;go_region_with (go_at_call 263;refine(wV (b 3) w.Wn i J _ G (by exact A.own 3) hx.1).mono ?_;rintro e x ⟨rfl,rfl⟩)
  all_goals go_upto_region 5 with fail
  all_goals rw[E.out]
  all_goals
   clear E M N O P Q z R S U V s t u r A T2 K c0 c1 ac;obtain⟨c0,c1⟩:=Ai B3.out;obtain⟨M,N,O,P,Q,z,R,S,U,V,s,t,u⟩:=C.out.cells f B;have r:=C.out.free;have P4:=qF 4 4 (d':=de w o (i,n)) C.out B (by omega) ((C.out.own 4).taken n) (xG { w with blocks:=o,Wn:=w.Wn.take i } b (w.Wq.take n)) (slice (b 4).ao m2 (b 4).cap) (by omega) (by simp only[cr,de,dw,<-H.out];rfl);have D:Hid _:=P4;clear P4;go_region_with (go_at_call 263;refine(wV (b 4) w.Wq n m2 _ H (by exact C.out.own 4) hx.2).mono ?_;rintro e x ⟨rfl,rfl⟩)
   all_goals go_wp2
   all_goals go_end0
   all_goals exact⟨rfl,D.out.1.Wj (aa.refl [] _).drew,T3.out.trans (D.out.2.Wj (aa.refl [] _).drew)⟩
theorem Cp{α:Type}(f:α->List Value)(n:Nat)(b:∀a,(f a).length=n)(l:List α):(l.flatMap f).length=l.length*n:=by
 induction l with
 | nil=>simp
 | cons a l c=>simp only[List.flatMap_cons,List.length_append,b,c,List.length_cons];rw[Vr];omega
theorem Co{α:Type}(f:α->List Value)(n:Nat)(b:∀a,(f a).length=n)(l:List α)(i j:Nat)(c:i<l.length)(g:j<n):(l.flatMap f)[i*n+j]?=(f l[i])[j]?:=by
 induction l generalizing i with
 | nil=>simp at c
 | cons a l d =>
  rw[SZ];cases i with
  | zero=>rw[Si (by rw[b];omega)];simp
  | succ i =>
   have e:(i+1)*n+j=n+(i*n+j):=(by rw[Vr];omega);rw[Sf (by rw[b,e];omega),b,e,show n+(i*n+j)-n=i*n+j by omega];exact d i (by simpa using c)
theorem LP{α:Type}(f:α->List Value)(n:Nat)(b:∀a,(f a).length=n)(l:List α)(i j:Nat)(g:i<l.length)(m:j<n)(c:α)(v:Value)(d:f c=(f l[i]).set j v) :
  (l.flatMap f).set (i*n+j) v=(l.set i c).flatMap f:=by
 induction l generalizing i with
 | nil=>simp at g
 | cons a l k =>
  cases i with
  | zero =>
   rw[UJ,SZ,SZ,UY _ _ (by rw[b];omega),d];simp
  | succ i =>
   have e:(i+1)*n+j=n+(i*n+j):=(by rw[Vr];omega);rw[TZ,SZ,SZ,Uq _ _ (by rw[b,e];omega),b,e,show n+(i*n+j)-n=i*n+j by omega];rw[k i (by simpa using g) (by simpa using d)]
theorem Nl:(mT v z1).length=v.length*8:=by
 unfold mT;rw[Cp _ 8 (fun _=>rfl)];simp
theorem Gf:(nY zb).length=zb.length*4:=Cp _ 4 (fun _=>rfl) zb
theorem Ic(a:n<v.length)(j:Nat)(b:j<8):(mT v z1)[n*8+j]?=(Kk v[n] (z1 (10+2*n)) (z1 (11+2*n)))[j]?:=by
 unfold mT;rw[Co _ 8 (fun _=>rfl) _ n j (by simpa using a) b];simp
theorem KM(a:n<zb.length)(j:Nat)(b:j<4):(nY zb)[n*4+j]?=(rF zb[n])[j]?:=Co _ 4 (fun _=>rfl) zb n j a b
theorem Kv:mT (v++[y0]) z1=mT v z1++Kk y0 (z1 (10+2*v.length)) (z1 (11+2*v.length)):=by
 unfold mT;rw[List.zipIdx_append];simp
theorem Gk:(v.set f y0).zipIdx=v.zipIdx.set f (y0,f):=by
 apply TY;intro j;simp only[List.getElem?_zipIdx,List.getElem?_set,List.length_zipIdx];by_cases e:f=j
 ·subst e;by_cases a:f<v.length <;> simp[a]
 ·simp[e]
theorem Nm(a:n<v.length)(N:Nat):(mT v z1).set (n*8+7) (int i64 N)=mT (v.set n { v[n] with til:=N }) z1:=by
 unfold mT;rw[Gk];exact LP _ 8 (fun _=>rfl) _ n 7 (by simpa using a) (by omega) _ _ (by simp[Kk])
theorem Du:(eS g).length=g.length*1:=by simp[eS]
theorem zu:km (M++[n])=km M++[int i64 n]:=by simp[km]
theorem m9:(⟨(bL M).e,(bL M).size,(bL M).n+1,(bL M).xs++[int i64 n]⟩:eB)=bL (M++[n]):=by simp[bL,zu]
theorem zl:(prog.info? 3).map (fun i=>(i.zero,i.size,i.bytes))=some (some (int i64 0),1,8):=by kernel_rfl
def pK(k:Int):Bool:=k==4||k==5
set_option maxRecDepth 512
theorem dZ(c d f g i j k:Value)(w:World) :
  Calls prog 161 #[agg #[int i64 L,c,d,f,g,i,j,k]] w fun e l=>e=returned (bool (pK L))/\aa [] w l:=by
 cases b:(L==4)
 ·have a:Hid (pK L=(L==5)):=by show pK L=_;simp only[pK,b,Bool.false_or]
  go_enter func161,ntmps161;go_wp2;go_ret;exact⟨aE (by rw[a.out]),(aa.refl _ _).alloc _⟩
 ·have a:Hid (pK L=true):=by show pK L=_;simp only[pK,b,Bool.true_or]
  go_enter func161,ntmps161;go_wp2;go_ret;exact⟨aE (by rw[a.out]),(aa.refl _ _).alloc _⟩
set_option maxRecDepth 100000
theorem A6(h:aV l T k d a w b)(B:d.length=f)(K:ge w 100000000) :
  Calls prog 248 #[pointer (some ⟨T,f+6,none⟩)] l fun e D=>e=returned (tuple #[])/\∃y,aV D T k d a { w with rbl:=w.rbl++[w.Wv.length] } y/\aB T l b D y:=by
 obtain⟨L,G,p,q,r⟩:=Sr zl;obtain⟨M,N,O,P,Q,R,q6,q7,S,U,s,t,v⟩:=h.cells f B;clear M N O P Q R S U s t v;have F:=h.free;have E:=h.lt;have J:=K.rbl;have A:Hid (aV (l.alloc (.cells #[int i64 w.Wv.length] 3)).drew T k d a w b):=h.Wj ((aa.refl [] l).alloc _).drew;have V:Hid (∀j u,([int i64 w.Wv.length]:List Value)[j]?=some u->(l.alloc (.cells #[int i64 w.Wv.length] 3)).drew.cell? ((⟨l.heap.size,0,none⟩:Addr).add j)=some u):=by
  intro j u H;have I:(l.alloc (.cells #[int i64 w.Wv.length] 3)).drew.heap[l.heap.size]?=some (.cells #[int i64 w.Wv.length] 3):=R2 _ _;rw[bS,aj I];simpa using H
 have W:Hid (∀u∈([int i64 w.Wv.length]:List Value),u.oneCell'=true):=by intro u C;simp at C;subst C;rfl
 have X:Hid ((bL w.rbl).n+1<=maxLen):=by show _<=_;simp only[bL];unfold maxLen;omega
 have Y:Hid (((bL w.rbl).n+1)*8<=140737488355328):=by show _<=_;simp only[bL];omega
 clear h;go_enter func248,ntmps248;go_wp2_with fail;go_region_law (refine cO rfl (.tmp 6) (.tmp 12) 24 rfl L (int i64 0) 8 (b 7) (bL w.rbl) underlying24 G p q r rfl So (by simp[Act.eval] <;> rfl) (A.out.own 7) ⟨l.heap.size,0,none⟩ 1 1 [int i64 w.Wv.length] (by simp[Act.eval]) rfl V.out W.out So X.out Y.out ?_;intro g i w1 o m c;obtain⟨k5,Z,z⟩:=A.out.app (d':={ w with rbl:=w.rbl++[w.Wv.length] }) f 7 B 7 (by omega) g i ((bL w.rbl).n+1) _ o (m9 w.rbl _) m (by simpa using c) (Di w b _) (by omega) _ rfl (by simp[cr,ip,bL]);clear o m c)
 all_goals go_wp2
 all_goals go_end0
 all_goals exact⟨rfl,_,z.out.1,z.out.2.first ((aa.refl [] l).alloc _).drew⟩
def lz(N:Nat)(s:St):St:=if s.til=0/\pK s.kind=false then { s with til:=N } else s
def gg(l:List St)(b n:Nat):List St:=l.mapIdx (fun i s=>if b<=i/\i<n then lz l.length s else s)
def ki(l:List St)(b:Nat):List St:=gg l b l.length
theorem jC:(gg v x n).length=v.length:=by simp[gg]
theorem mW:(gg v f x)[n]?=v[n]?.map (fun s=>if f<=n/\n<x then lz v.length s else s):=by simp[gg]
theorem Cf:gg v n n=v:=by
 apply TY;intro i;rw[mW];have:¬(n<=i/\i<n):=by omega
 simp[this]
theorem wM(b:x<=n)(c:n<v.length):gg v x (n+1)=(gg v x n).set n (lz v.length v[n]):=by
 apply TY;intro i;rw[Tl,mW,mW,jC];by_cases e:n=i
 ·subst e;have a:x<=n/\n<n+1:=⟨b,by omega⟩;simp[c,a]
 ·have:(x<=i/\i<n+1) ↔ (x<=i/\i<n):=by omega
  simp[e,this]
theorem Es(b:x<=n)(a:n<v.length)(h:lz v.length v[n]=v[n]):gg v x (n+1)=gg v x n:=by
 rw[wM v x n b a,h];apply TY;intro i;rw[Tl,jC];by_cases e:n=i
 ·subst e;rw[mW];simp[a]
 ·simp[e]
theorem LJ(a:n<v.length):(gg v x n)[n]?=some v[n]:=by
 rw[mW];simp[a]
theorem xR(b:n<v.length)(N:Nat)(i:Nat):symsAt (v.set n { v[n] with til:=N }) i=symsAt v i/\tO (v.set n { v[n] with til:=N }) i=tO v i:=by
 unfold symsAt tO;rw[Tl];by_cases e:n=i
 ·subst e;simp[b]
 ·simp[e]
theorem aV.til(h:aV i D z7 z4 z6 H S)(g:Nat)(p:(S 6).ao=some ⟨g,0,none⟩)(n:Nat)(r:n<H.Wv.length)(N:Nat) :
  aV (i.setCell ⟨g,n*8+7,none⟩ (int i64 N)) D z7 z4 z6 { H with Wv:=H.Wv.set n { H.Wv[n] with til:=N } } S/\aB D i S (i.setCell ⟨g,n*8+7,none⟩ (int i64 N)) S:=by
 have b:(S 6).blk=some g:=by unfold Hd.blk;rw[p];rfl
 have q:g≠D:=by rintro rfl;exact h.off 6 b
 refine⟨⟨?_,?_,h.apart,h.off⟩,(fy.refl _ _).setCell (R4 (RZ ⟨6,b⟩)) _,fun _ j=>R4 j⟩
 ·rw[Sg _ _ _ _ (fun e=>q e.symm),h.blk];simp[cr]
 ·intro d;by_cases e:d=6
  ·subst e;have B:aC i (S 6) (iW H.Wv S):=h.own 6;show aC _ (S 6) (iW (H.Wv.set n { H.Wv[n] with til:=N }) S);rcases B.Wu with ⟨C,z,_⟩ | ⟨s,f,c,u,v,w,x,y⟩
   ·have:H.Wv.length=0:=z;omega
   ·have:s=g:=(by rw[p]at c;injection c with c;injection c with c;exact c.symm);subst this;refine⟨by simp only[iW];rw[Nl],RZ ⟨s,(S 6).cap,f.setIfInBounds (n*8+7) (int i64 N),?_,SE _,ah u _ _,?_,w,?_,?_⟩⟩
    ·simp[iW,p]
    ·simpa [iW] using v
    ·simpa [iW] using x
    ·have o:f.toList.take (H.Wv.length*8)=mT H.Wv S:=y;simp only[iW,List.length_set,Array.toList_setIfInBounds,List.take_set,o];exact Nm H.Wv S n r N
  ·have A:aY { H with Wv:=H.Wv.set n { H.Wv[n] with til:=N } } S d=aY H S d:=by
    match d,e with
    | 0,_=>rfl
    | 1,_=>rfl
    | 2,_=>rfl
    | 3,_=>rfl
    | 4,_=>rfl
    | 5,_=>rfl
    | 6,e=>exact absurd rfl e
    | 7,_=>rfl
    | 8,_=>rfl
    | 9,_=>rfl
    | m+10,_=>simp only[aY,inner,(xR H.Wv n r N (m / 2)).1,(xR H.Wv n r N (m / 2)).2]
   rw[A];refine(h.own d).Wo (fun k j=>Sg _ _ _ _ ?_);rintro rfl;rcases h.apart d 6 e with a | a
   ·rw[a]at j;cases j
   ·exact a (j.trans b.symm)
theorem aV.stmt(h:aV i D z7 z4 z6 H S)(g:Nat)(a:(S 6).ao=some ⟨g,0,none⟩)(n:Nat)(s:St)(e:H.Wv[n]?=some s) :
  i.cell? ⟨g,n*8,none⟩=some (int i64 s.kind)/\i.cell? ⟨g,n*8+1,none⟩=some (string s.label)/\i.cell? ⟨g,n*8+2,none⟩=some (slice (S (10+2*n)).ao s.We.length (S (10+2*n)).cap) /\
  i.cell? ⟨g,n*8+3,none⟩=some (slice (S (11+2*n)).ao s.Wp.length (S (11+2*n)).cap)/\i.cell? ⟨g,n*8+4,none⟩=some (string s.fin.file)/\i.cell? ⟨g,n*8+5,none⟩=some (int i64 s.fin.line) /\
  i.cell? ⟨g,n*8+6,none⟩=some (int i64 s.fin.col)/\i.cell? ⟨g,n*8+7,none⟩=some (int i64 s.til):=by
 obtain⟨d,rfl⟩:=R8.1 e;have k:aC i (S 6) (iW H.Wv S):=h.own 6;have c:=fun j (b:j<8) v (f:(Kk H.Wv[n] (S (10+2*n)) (S (11+2*n)))[j]?=some v)=>k.cell a (n*8+j) v ((Ic H.Wv S n d j b).trans f);exact⟨c 0 (by omega) _ rfl,c 1 (by omega) _ rfl,c 2 (by omega) _ rfl,c 3 (by omega) _ rfl,c 4 (by omega) _ rfl,c 5 (by omega) _ rfl,c 6 (by omega) _ rfl,c 7 (by omega) _ rfl⟩
theorem CT:(km M).length=M.length*1:=by simp[km]
theorem aC.popN{l:List Nat}(o:aC i z2 (bL (l++[D]))):aC i z2 (bL l):=by
 rcases o.Wu with ⟨t,r,_⟩ | ⟨g,b,f,n,j,k,m,p⟩
 ·have e:(l++[D]).length=0:=r;simp at e
 ·obtain⟨s,a⟩:=z2;simp only at f j k m;subst f;have c:(l++[D]).length<=a:=j;simp at c;refine⟨by simp only[bL];exact CT l,RZ ⟨g,a,b,rfl,SE _,n,?_,k,m,?_⟩⟩
  ·simp only[bL];omega
  ·have d:b.toList.take ((l++[D]).length*1)=km (l++[D]):=p;simp only[bL];have q:km l=(km (l++[D])).take (l.length*1):=by rw[zu,List.take_left' (CT l)]
   rw[q,<-d,VF];congr 1;simp
theorem Fm(h:aV l T k d a w b)(ho:d.length=f)(Q:w.rbl=M++[x])(hs:ge w 100000000)(hx:x<=w.Wv.length) :
  Calls prog 250 #[pointer (some ⟨T,f+6,none⟩)] l fun e w'=>e=returned (tuple #[])/\aV w' T k d a { w with rbl:=M,Wv:=ki w.Wv x } b/\aB T l b w' b:=by
 obtain⟨S,U,V,W,X,Y,F,z,Z,q9,n,o,p⟩:=h.cells f ho;clear S U V W X Y Z q9 n o p;have C:=h.free;have az:=h.lt;have u:aC l (b 7) (bL (M++[x])):=by have:=h.own 7;simp only[aY,Q]at this;exact this
 have y:=hs.rbl;have an:=hs.Wv;rw[Q]at y z;simp only[List.length_append,List.length_cons,List.length_nil]at y z;rcases u.Wu with ⟨e0,h0,_⟩ | ⟨g,ax,e1,e2,e3,e4,e5,A⟩
 ·have ad:(M++[x]).length=0:=h0;simp at ad
 ·have p1:=u.cell e1 M.length (int i64 x) (by simp[bL,km]);have ar:M.length+1<=(b 7).cap:=by have:(M++[x]).length<=(b 7).cap:=e3;simpa using this
  have ag:(b 7).cap<=9223372036854775807:=by unfold maxLen at e4;exact e4
  have P1:=qF 7 7 (d':={ w with rbl:=M }) h ho (by omega) u.popN (Di w b M) (slice (some ⟨g,0,none⟩) M.length (b 7).cap) (by omega) (by simp[cr,ip,e1]);rw[e1]at z;have HP:Hid _:=P1;clear u e3 e4 e5 A e2 h P1;go_enter func250,ntmps250;go_wp2
  go_loopg [4] (w.Wv.length-x) (fun g i wr=>∃c:Nat,x<=c/\c<=w.Wv.length/\g=w.Wv.length-c/\i=int i64 c/\aV wr T k d a { w with rbl:=M,Wv:=gg w.Wv x c } b/\aB T l b wr b)
  case atStart=>exact⟨x,by omega,hx,rfl,rfl,by rw[Cf];exact HP.out.1,HP.out.2⟩
  case round =>
   obtain⟨c,m,aT,hg,rfl,D,ac⟩:=hrel;clear HP F z p1 C;obtain⟨S,U,V,W,X,Y,F,z,Z,q9,n,o,p⟩:=D.cells f ho;clear S U V W X Y z Z q9 n o p;have C:=D.free;simp only[jC]at F;by_cases t:c<w.Wv.length
   ·have r:=LJ w.Wv x c t;have R:aC wr (b 6) (iW (gg w.Wv x c) b):=D.own 6;rcases R.Wu with ⟨_,h0,_⟩ | ⟨L,ap,A,q,K,-⟩
    ·have:(gg w.Wv x c).length=0:=h0;rw[jC]at this;omega
    ·obtain⟨c0,c1,c2,c3,c4,c5,c6,c7⟩:=D.stmt L A c _ r;rw[A]at F;have B:=am q;have HS:Hid (∀N:Nat,aV wr T k d a { w with rbl:=M,Wv:=gg w.Wv x c } b->∀G,aa [] wr G->aV (G.setCell ⟨L,c*8+7,none⟩ (int i64 N)) T k d a { w with rbl:=M,Wv:=(gg w.Wv x c).set c { w.Wv[c] with til:=N } } b/\aB T l b (G.setCell ⟨L,c*8+7,none⟩ (int i64 N)) b):=by
      intro N D G m;have H:=D.Wj m;have hn:c<(gg w.Wv x c).length:=by rw[jC];exact t
      have P:=H.til L A c hn N;have es:(gg w.Wv x c)[c]=w.Wv[c]:=(by have:=r;rw[RQ hn]at this;simpa using this);simp only[es]at P;exact⟨P.1,(ac.Wj m).trans P.2⟩
     have I:Hid (lz w.Wv.length w.Wv[c]=w.Wv[c]->gg w.Wv x (c+1)=gg w.Wv x c):=Es w.Wv x c m t;have H2:Hid (gg w.Wv x (c+1)=(gg w.Wv x c).set c (lz w.Wv.length w.Wv[c])):=wM w.Wv x c m t;have aS:=ae q;have al:=q;have O:Hid _:=r;have ai:w.Wv.length<=(b 6).cap:=(by have:(gg w.Wv x c).length<=(b 6).cap:=K;rw[jC]at this;exact this);clear r R q K;generalize w.Wv[c]=s at *;cases hz:((s.til:Int)==0)
     ·have J:Hid (gg w.Wv x (c+1)=gg w.Wv x c):=I.out (by
       have:¬s.til=0:=by intro e;simp[e]at hz
       simp[lz,this])
      clear HS I H2 B;go_wp2;go_roundg (w.Wv.length-(c+1))
      case measure=>omega
      case rel=>exact⟨c+1,by omega,by omega,rfl,by go_num,by rw[J.out];exact D,ac⟩
     ·have E:s.til=0:=(by have:=Vc hz;omega);cases ha:pK s.kind
      ·have J:Hid (gg w.Wv x (c+1)=(gg w.Wv x c).set c { s with til:=w.Wv.length }):=by
        show _=_;rw[H2.out];simp[lz,E,ha]
       clear I H2 E;go_wp2_with (go_at_call 161;refine(dZ s.kind _ _ _ _ _ _ _ _).mono ?_;rintro e G ⟨rfl,j⟩;have af:=j.get al (by simp));have H:=D.Wj j;have PS:Hid _:=(fun N=>HS.out N D _ j);obtain⟨S,U,V,W,X,Y,F,z,Z,q9,n,o,p⟩:=H.cells f ho;clear S U V W X Y z Z q9 n o p;simp only[jC,A]at F;obtain⟨c0,c1,c2,c3,c4,c5,c6,c7⟩:=H.stmt L A c _ O.out;clear c0 c1 c2 c3 c4 c5 c6;have B:=am af;have C:=H.free;go_region
       all_goals go_wp2
       all_goals
        go_roundg (w.Wv.length-(c+1))
        case measure=>omega
        case rel=>exact⟨c+1,by omega,by omega,rfl,by go_num,by rw[J.out];exact(PS.out _).1.Wj (aa.refl [] _).drew,(PS.out _).2.Wj (aa.refl [] _).drew⟩
      ·have J:Hid (gg w.Wv x (c+1)=gg w.Wv x c):=I.out (by simp[lz,ha]);clear HS I H2 B E;go_wp2_with (go_at_call 161;refine(dZ s.kind _ _ _ _ _ _ _ _).mono ?_;rintro e G ⟨rfl,j⟩);go_roundg (w.Wv.length-(c+1))
       case measure=>omega
       case rel=>exact⟨c+1,by omega,by omega,rfl,by go_num,by rw[J.out];exact D.Wj j,ac.Wj j⟩
   ·have e:c=w.Wv.length:=(by omega);subst e;go_wp2;go_end0;exact⟨rfl,D,ac⟩
theorem QS:(prog.info? 158).map (fun i=>(i.zero,i.size,i.bytes))=some (some (agg #[int i64 0,string ⟨#[]⟩,slice none 0 0,slice none 0 0,string ⟨#[]⟩,int i64 0,int i64 0,int i64 0]),8,112):=by kernel_rfl
theorem Pw:(prog.info? 229).map (fun i=>(i.zero,i.size,i.bytes))=some (some (agg #[string ⟨#[]⟩,string ⟨#[]⟩,int i64 0,int i64 0]),4,48):=by kernel_rfl
theorem vx(h:∀j,j<10+2*v.length->z1 j=b j):mT v z1=mT v b:=by
 unfold mT;rw[UG,UG];congr 1;apply Ux;intro p a;have:p.2<v.length:=by
  have:=List.snd_lt_add_of_mem_zipIdx a;omega
 rw[h _ (by omega),h _ (by omega)]
theorem M4(o:aC zt N (aG g)):aC zt N (aG []):=by
 have:=o.taken 0;simpa using this
theorem M5(o:aC zt N (ic zb)):aC zt N (ic []):=by
 rcases o.Wu with ⟨f,m,_⟩ | ⟨g,b,c,i,j,d,e,l⟩
 ·subst f;exact⟨by simp[ic,nY],R4 ⟨by simp[ic],by simp[ic]⟩⟩
 ·obtain⟨k,a⟩:=N;simp only at c j d e;subst c;exact⟨by simp[ic,nY],RZ ⟨g,a,b,rfl,SE _,i,by simp[ic],d,e,by simp[ic,nY]⟩⟩
theorem aV.addst{w w1:World}(O:aV i D z7 z4 z6 H S)(B:aa [] i w)(ho:z4.length=z5)(s:St)(y x:Hd)(J I:Nat)(X:y.blk=some J)(V:x.blk=some I)(W:i.heap.size<=J)(U:i.heap.size<=I)(C:J≠I)(os:aC w y (aG s.We))(op:aC w x (ic s.Wp))(g d:Nat)(Y:aC w1 ⟨some ⟨g,0,none⟩,d⟩ ⟨(iW H.Wv S).e,(iW H.Wv S).size,(iW H.Wv S).n+1,(iW H.Wv S).xs++Kk s y x⟩)(A:w.grownBy w1 (S 6).blk)(v:(S 6).blk=some g∨w.heap.size<=g) :
  w1.cell? ⟨D,z5+6,none⟩=some (slice (S 6).ao H.Wv.length (S 6).cap)/\w1.frozen? ⟨D,z5+6,none⟩=false /\
  Hid (∃M,aV (w1.setCell ⟨D,z5+6,none⟩ (slice (some ⟨g,0,none⟩) ((iW H.Wv S).n+1) d)) D z7 z4 z6 { H with Wv:=H.Wv++[s] } M /\
   aB D i S (w1.setCell ⟨D,z5+6,none⟩ (slice (some ⟨g,0,none⟩) ((iW H.Wv S).n+1) d)) M/\∀j,j<10->j≠6->M j=S j):=by
 have h:=O.Wj B;have K:=(A.block D h.lt (fun e=>h.off 6 e.symm)).trans h.blk;refine⟨(aj K (z5+6)).trans (AN z4 (cr H S) z6 z5 6 ho (by simp[cr])),am K _,?_⟩;have R:=fun {k} (K:gO S k)=>O.inlt K;have ac:=O.lt;obtain⟨b,t⟩:∃b,b=ip (ip S (10+2*H.Wv.length) y) (11+2*H.Wv.length) x:=⟨_,rfl⟩
 have l:∀j,j≠10+2*H.Wv.length->j≠11+2*H.Wv.length->b j=S j:=fun j a c=>by rw[t,bX _ _ _ _ c,bX _ _ _ _ a]
 have F:b (10+2*H.Wv.length)=y:=by rw[t,bX _ _ _ _ (by omega),dw]
 have G:b (11+2*H.Wv.length)=x:=by rw[t,dw]
 have e4:mT H.Wv b=mT H.Wv S:=vx _ _ _ (fun j p=>l j (by omega) (by omega));clear t;have el:cr H b=cr H S:=by
  unfold cr;rw[l 0 (by omega) (by omega),l 1 (by omega) (by omega),l 2 (by omega) (by omega),l 3 (by omega) (by omega),l 4 (by omega) (by omega),l 5 (by omega) (by omega),l 6 (by omega) (by omega),l 7 (by omega) (by omega),l 8 (by omega) (by omega),l 9 (by omega) (by omega)]
 have er:∀j,aY H b j=aY H S j:=by
  intro j;unfold aY;split <;> first | rfl | (simp only[iW,e4])
 have E:∀j,(b j).blk=(S j).blk∨((b j).blk=some J/\j=10+2*H.Wv.length)∨((b j).blk=some I/\j=11+2*H.Wv.length):=by
  intro j;by_cases a:j=10+2*H.Wv.length
  ·subst a;rw[F];exact RZ (R4 ⟨X,rfl⟩)
  ·by_cases c:j=11+2*H.Wv.length
   ·subst c;rw[G];exact RZ (RZ ⟨V,rfl⟩)
   ·rw[l j a c];exact R4 rfl
 have D1:aV w D z7 z4 z6 H b:=by
  refine⟨by rw[el];exact h.blk,?_,?_,?_⟩
  ·intro j;rw[er j];by_cases a:j=10+2*H.Wv.length
   ·subst a;rw[F];have:aY H S (10+2*H.Wv.length)=aG []:=by
     rw[show 10+2*H.Wv.length=2*H.Wv.length+10 by omega];simp[aY,inner,symsAt]
    rw[this];exact M4 w y _ os
   ·by_cases c:j=11+2*H.Wv.length
    ·subst c;rw[G];have:aY H S (11+2*H.Wv.length)=ic []:=by
      rw[show 11+2*H.Wv.length=(2*H.Wv.length+1)+10 by omega];have q:(2*H.Wv.length+1) % 2=1:=by omega
      have Z:(2*H.Wv.length+1) / 2=H.Wv.length:=(by omega);simp[aY,inner,tO,q,Z]
     rw[this];exact M5 w x _ op
    ·rw[l j a c];exact h.own j
  ·intro r j Q;have f:∀r k,(S r).blk=some k->k<i.heap.size:=fun r k e=>R ⟨r,e⟩;rcases E r with a | ⟨a,ai⟩ | ⟨a,ai⟩ <;> rcases E j with c | ⟨c,cj⟩ | ⟨c,cj⟩ <;> rw[a,c]
   ·exact h.apart r j Q
   ·cases e:(S r).blk with
    | none=>exact R4 rfl
    | some k=>right;intro o;cases o;have:=f r _ e;omega
   ·cases e:(S r).blk with
    | none=>exact R4 rfl
    | some k=>right;intro o;cases o;have:=f r _ e;omega
   ·right;intro o;have:=f j _ o.symm;omega
   ·omega
   ·right;intro o;cases o;exact C rfl
   ·right;intro o;have:=f j _ o.symm;omega
   ·right;intro o;cases o;exact C rfl
   ·omega
  ·intro j;rcases E j with a | ⟨a,_⟩ | ⟨a,_⟩ <;> rw[a]
   ·exact h.off j
   ·intro e;cases e;omega
   ·intro e;cases e;omega
 have T1:aB D i S w b:=by
  refine⟨B.toP (by simp),?_⟩;rintro k ⟨j,p⟩;rcases E j with a | ⟨a,_⟩ | ⟨a,_⟩ <;> rw[a]at p
  ·exact R4 ⟨j,p⟩
  ·cases p;exact RZ W
  ·cases p;exact RZ U
 have h6:b 6=S 6:=l 6 (by omega) (by omega);have N:aY { H with Wv:=H.Wv++[s] } b 6=⟨(iW H.Wv S).e,(iW H.Wv S).size,(iW H.Wv S).n+1,(iW H.Wv S).xs++Kk s y x⟩:=by
  simp only[aY,iW,Kv,F,G,e4,List.length_append,List.length_cons,List.length_nil]
 have P:=D1.putG (d':={ H with Wv:=H.Wv++[s] }) z5 6 ho 6 (by omega) ⟨some ⟨g,0,none⟩,d⟩ (by rw[N];exact Y) (by rw[h6];exact A)
  (by
    rcases v with e | e
    ·exact RZ (R4 (by rw[h6];exact e.symm))
    ·exact RZ (RZ ⟨g,rfl,e⟩))
  (by
   intro j p;by_cases a:j=10+2*H.Wv.length
   ·subst a;rw[F];have:aY { H with Wv:=H.Wv++[s] } b (10+2*H.Wv.length)=aG s.We:=by
     rw[show 10+2*H.Wv.length=2*H.Wv.length+10 by omega];simp[aY,inner,symsAt]
    rw[this];exact os
   ·by_cases c:j=11+2*H.Wv.length
    ·subst c;rw[G];have:aY { H with Wv:=H.Wv++[s] } b (11+2*H.Wv.length)=ic s.Wp:=by
      rw[show 11+2*H.Wv.length=(2*H.Wv.length+1)+10 by omega];have q:(2*H.Wv.length+1) % 2=1:=by omega
      have Z:(2*H.Wv.length+1) / 2=H.Wv.length:=(by omega);simp[aY,inner,tO,q,Z]
     rw[this];exact op
    ·have:aY { H with Wv:=H.Wv++[s] } b j=aY H b j:=by
      match j,p,a,c with
      | 0,_,_,_=>rfl
      | 1,_,_,_=>rfl
      | 2,_,_,_=>rfl
      | 3,_,_,_=>rfl
      | 4,_,_,_=>rfl
      | 5,_,_,_=>rfl
      | 6,p,_,_=>exact absurd rfl p
      | 7,_,_,_=>rfl
      | 8,_,_,_=>rfl
      | 9,_,_,_=>rfl
      | m+10,_,a,c =>
       have hm:m / 2≠H.Wv.length:=(by omega);have e:(H.Wv++[s])[m / 2]?=H.Wv[m / 2]?:=by
        rcases V5 (m / 2) H.Wv.length with L | L
        ·exact Si L
        ·rw[Sf L,SG L,SG (by simp;omega)]
       simp only[aY,inner,symsAt,tO,e]
     rw[this];exact D1.own j)
  (slice (some ⟨g,0,none⟩) ((iW H.Wv S).n+1) d) (by omega) (by
   rw[el];have u:∀j,j<10->j≠6->ip b 6 (⟨some ⟨g,0,none⟩,d⟩:Hd) j=S j:=fun j p T=>by rw[bX _ _ _ _ T];exact l j (by omega) (by omega)
   unfold cr;rw[u 0 (by omega) (by omega),u 1 (by omega) (by omega),u 2 (by omega) (by omega),u 3 (by omega) (by omega),u 4 (by omega) (by omega),u 5 (by omega) (by omega),u 7 (by omega) (by omega),u 8 (by omega) (by omega),u 9 (by omega) (by omega),dw];simp[iW])
 exact⟨_,P.1,T1.trans P.2,fun j p T=>by rw[bX _ _ _ _ T];exact l j (by omega) (by omega)⟩
end Go.Proofs.YtnbhnocdhbcbcaaGreat
