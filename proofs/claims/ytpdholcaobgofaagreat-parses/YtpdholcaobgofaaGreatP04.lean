import Derived.Deep.RegionLaw
import Derived.BigQuiet
import Derived.Deep.RegionHeld3
import Derived.Test.YtpdholcaobgofaaGreatP03
namespace Go.Proofs.YtpdholcaobgofaaGreat
open Go.RowKit Tryz
open Value IntKind Ending
set_option maxHeartbeats 0
variable{D g z0:Nat}{yd:Nat->Bool}{a z6:World}{z7:Hd}{z8:Xs}{z4 zf:List Value}{l:Db}{S y8:Nat->Hd}(n:Nat)(v:List St)(i:Nat)(ya:World)(N:Hd)(M:Xs)(H:Nat)(d o:List Value)(w:Db)(y9:St)(b:Nat->Hd)(x:Xr)(k:Int)(L:List (Nat×Nat))(z3:Nat×Nat)(I:Xu)(y:Nat)(f:World)(z5:Nat->Hd)(zt:List (Xr×Pl))(T:Nat)
def ld(n:Int):Bool:=(decide (97<=n)&&decide (n<=122))||(decide (65<=n)&&decide (n<=90))||(decide (48<=n)&&decide (n<=57))||n==45||n==95||n==46
def ja(s:Xr):Bool:=(List.range s.size).all (fun i=>ld (aL s i))
theorem rW :
  Calls prog 274 #[int u8 k] f fun e i=>e=returned (bool (ld k))/\i=f:=by
 by_cases b:(97<=k/\k<=122)∨(65<=k/\k<=90)∨(48<=k/\k<=57)
 ·have a:Xq (ld k=true):=by show ld k=true;simp only[ld,Bool.or_eq_true,Bool.and_eq_true,decide_eq_true_eq];omega
  rcases b with b | b | b
  all_goals
   go_enter func274,ntmps274;go_wp2;go_ret;exact⟨aH a.o.symm,rfl⟩
 ·have a:Xq (ld k=(k==45||k==95||k==46)):=by
   show ld k=_;have c:(decide (97<=k)&&decide (k<=122))=false:=(by simp;omega);have d:(decide (65<=k)&&decide (k<=90))=false:=(by simp;omega);have g:(decide (48<=k)&&decide (k<=57))=false:=(by simp;omega);simp only[ld,c,d,g,Bool.false_or]
  go_enter func274,ntmps274;go_wp2
  all_goals go_ret
  all_goals (refine⟨aH ?_,rfl⟩;first | rfl | (rw[a.o];done) | (rw[a.o];simp[*];done))
theorem JC(h:T<D)(a:yd T=false):(List.range D).all yd=false:=by
 rw[ZK];exact⟨T,by simpa using h,by simp[a]⟩
theorem DW(h:∀i,i<D->yd i=true):(List.range D).all yd=true:=by
 rw[YP];intro i a;exact h i (by simpa using a)
theorem pP(q:x.size<=1073741824) :
  Calls prog 262 #[string x] f fun e l=>e=returned (bool (ja x))/\l=f:=by
 go_enter func262,ntmps262;go_wp2
 go_loopg [3] x.size (fun g i wr=>∃k:Nat,k<=x.size/\g=x.size-k/\i=int i64 k/\Xq (∀i,i<k->ld (aL x i)=true)/\wr=f)
 ·exact⟨0,by omega,by omega,rfl,fun i h=>by omega,rfl⟩
 obtain⟨k,p,n,rfl,a,rfl⟩:=hrel;by_cases b:k<x.size
 ·cases d:ld (x[k].toNat:Int)
  ·have c:Xq (ja x=false):=JC k b (by rw[cw x k b];exact d);go_wp2_with fail;refine(rW _ _).mono ?_;rintro e m ⟨rfl,rfl⟩;go_wp2;go_ret;exact⟨aH c.o.symm,rfl⟩
  ·go_wp2_with fail;refine(rW _ _).mono ?_;rintro e m ⟨rfl,rfl⟩;go_wp2;go_roundg (x.size-(k+1))
   ·refine⟨k+1,by omega,rfl,by go_num,?_,rfl⟩;intro i j;by_cases e:i=k
    ·subst e;rw[cw x i b];exact d
    ·exact a.o i (by omega)
   omega
 ·have c:Xq (ja x=true):=DW (fun i j=>a.o i (by omega));go_wp2;go_ret;exact⟨aH c.o.symm,rfl⟩
theorem md(h:a9 f n i d o w b)(c:d.length=H)(a:w.Zbn.length<=1073741824) :
  Calls prog 268 #[pointer (some ⟨n,H,none⟩),string x] f fun e l=>e=returned (bool (aN w.Zbn x))/\l=f:=by
 obtain⟨m,p,q,r,s,t,u,v,y,z,g,j,k⟩:=h.cells H c;go_enter func268,ntmps268;go_wp2_with fail;refine(fP (b 3) w.Zbn x _ (by exact h.ZbH 3) a).mono ?_;rintro e A ⟨rfl,rfl⟩;go_wp2;go_ret;exact⟨rfl,rfl⟩
theorem o8(h:a9 f n i d o w b)(c:d.length=H)(a:w.Zbg.length<=1073741824) :
  Calls prog 269 #[pointer (some ⟨n,H,none⟩),string x] f fun e l=>e=returned (bool (aN w.Zbg x))/\l=f:=by
 obtain⟨m,p,q,r,s,t,u,v,y,z,g,j,k⟩:=h.cells H c;go_enter func269,ntmps269;go_wp2_with fail;refine(fP (b 1) w.Zbg x _ (by exact h.ZbH 1) a).mono ?_;rintro e A ⟨rfl,rfl⟩;go_wp2;go_ret;exact⟨rfl,rfl⟩
theorem pQ(h:a9 f n i d o w b)(c:d.length=H)(a:w.Zbq.length<=1073741824) :
  Calls prog 270 #[pointer (some ⟨n,H,none⟩),string x] f fun e l=>e=returned (bool (aN w.Zbq x))/\l=f:=by
 obtain⟨m,p,q,r,s,t,u,v,y,z,g,j,k⟩:=h.cells H c;go_enter func270,ntmps270;go_wp2_with fail;refine(fP (b 4) w.Zbq x _ (by exact h.ZbH 4) a).mono ?_;rintro e A ⟨rfl,rfl⟩;go_wp2;go_ret;exact⟨rfl,rfl⟩
def eB(d:Db)(x:Xr):Bool:=aN d.Zbm x||aN d.Zbg x||aN d.Zbh x
def eI(d:Db)(x:Xr):Bool:=aN d.Zbm x||aN d.Zbg x||aN d.Zbn x
theorem nN(h:a9 f n i d o w b)(l:d.length=H)(a:hZ w 1073741824) :
  Calls prog 253 #[pointer (some ⟨n,H,none⟩),string x] f fun e r=>e=returned (bool (eB w x))/\r=f:=by
 obtain⟨s,t,u,v,y,z,A,B,C,D,m,p,q⟩:=h.cells H l;cases j:aN w.Zbm x
 ·cases k:aN w.Zbg x
  ·have c:Xq (eB w x=aN w.Zbh x):=(by show eB w x=_;simp[eB,j,k]);go_enter func253,ntmps253;go_wp2_with fail;refine(fP (b 0) w.Zbm x _ (by exact h.ZbH 0) a.Zbm).mono ?_;rintro e g ⟨rfl,rfl⟩;go_wp2_with fail;refine(fP (b 1) w.Zbg x _ (by exact h.ZbH 1) a.Zbg).mono ?_;rintro e g ⟨rfl,rfl⟩;go_wp2_with fail;refine(fP (b 2) w.Zbh x _ (by exact h.ZbH 2) a.Zbh).mono ?_;rintro e g ⟨rfl,rfl⟩;go_wp2;go_ret;exact⟨aH (by rw[c.o]),rfl⟩
  ·have c:Xq (eB w x=true):=(by show eB w x=_;simp[eB,j,k]);go_enter func253,ntmps253;go_wp2_with fail;refine(fP (b 0) w.Zbm x _ (by exact h.ZbH 0) a.Zbm).mono ?_;rintro e g ⟨rfl,rfl⟩;go_wp2_with fail;refine(fP (b 1) w.Zbg x _ (by exact h.ZbH 1) a.Zbg).mono ?_;rintro e g ⟨rfl,rfl⟩;go_wp2;go_ret;exact⟨aH (by rw[c.o]),rfl⟩
 ·have c:Xq (eB w x=true):=by show eB w x=_;simp[eB,j]
  go_enter func253,ntmps253;go_wp2_with fail;refine(fP (b 0) w.Zbm x _ (by exact h.ZbH 0) a.Zbm).mono ?_;rintro e g ⟨rfl,rfl⟩;go_wp2;go_ret;exact⟨aH (by rw[c.o]),rfl⟩
theorem EB(h:a9 f n i d o w b)(l:d.length=H)(a:hZ w 1073741824) :
  Calls prog 254 #[pointer (some ⟨n,H,none⟩),string x] f fun e r=>e=returned (bool (eI w x))/\r=f:=by
 obtain⟨s,t,u,v,y,z,A,B,C,D,m,p,q⟩:=h.cells H l;cases j:aN w.Zbm x
 ·cases k:aN w.Zbg x
  ·have c:Xq (eI w x=aN w.Zbn x):=(by show eI w x=_;simp[eI,j,k]);go_enter func254,ntmps254;go_wp2_with fail;refine(fP (b 0) w.Zbm x _ (by exact h.ZbH 0) a.Zbm).mono ?_;rintro e g ⟨rfl,rfl⟩;go_wp2_with fail;refine(fP (b 1) w.Zbg x _ (by exact h.ZbH 1) a.Zbg).mono ?_;rintro e g ⟨rfl,rfl⟩;go_wp2_with fail;refine(fP (b 3) w.Zbn x _ (by exact h.ZbH 3) a.Zbn).mono ?_;rintro e g ⟨rfl,rfl⟩;go_wp2;go_ret;exact⟨aH (by rw[c.o]),rfl⟩
  ·have c:Xq (eI w x=true):=(by show eI w x=_;simp[eI,j,k]);go_enter func254,ntmps254;go_wp2_with fail;refine(fP (b 0) w.Zbm x _ (by exact h.ZbH 0) a.Zbm).mono ?_;rintro e g ⟨rfl,rfl⟩;go_wp2_with fail;refine(fP (b 1) w.Zbg x _ (by exact h.ZbH 1) a.Zbg).mono ?_;rintro e g ⟨rfl,rfl⟩;go_wp2;go_ret;exact⟨aH (by rw[c.o]),rfl⟩
 ·have c:Xq (eI w x=true):=by show eI w x=_;simp[eI,j]
  go_enter func254,ntmps254;go_wp2_with fail;refine(fP (b 0) w.Zbm x _ (by exact h.ZbH 0) a.Zbm).mono ?_;rintro e g ⟨rfl,rfl⟩;go_wp2;go_ret;exact⟨aH (by rw[c.o]),rfl⟩
theorem nM(h:a9 f n i d o w b)(a:d.length=H) :
  Calls prog 206 #[pointer (some ⟨n,H,none⟩)] f fun e k=>e=returned (bool (decide (0<w.ZbA.length)))/\k=f:=by
 obtain⟨l,m,p,q,r,s,t,u,v,x,c,g,j⟩:=h.cells H a;go_enter func206,ntmps206;go_wp2;go_ret;exact⟨rfl,rfl⟩
def lU(d:Db):Bool:=d.Zby != 0||decide (0<d.ZbA.length)
theorem wG(h:a9 f n i d o w b)(g:d.length=H) :
  Calls prog 157 #[pointer (some ⟨n,H,none⟩)] f fun e m=>e=returned (bool (lU w))/\m=f:=by
 obtain⟨p,q,r,s,t,u,v,x,y,z,j,k,l⟩:=h.cells H g;cases c:(w.Zby != 0)
 ·have a:Xq (lU w=decide (0<w.ZbA.length)):=by show lU w=_;simp only[lU,c,Bool.false_or]
  go_enter func157,ntmps157;go_wp2_with fail;refine(nM n i H d o w b _ h g).mono ?_;rintro e A ⟨rfl,rfl⟩;go_wp2;go_ret;exact⟨aH (by rw[a.o]),rfl⟩
 ·have a:Xq (lU w=true):=by show lU w=_;simp only[lU,c,Bool.true_or]
  go_enter func157,ntmps157;go_wp2_with fail;go_ret;exact⟨aH (by rw[a.o]),rfl⟩
def oe(d:Db):Int:=if(d.Zby==1)=true∨(d.Zby==2)=true then 2 else 1
theorem xI(h:a9 f n i d o w b)(j:d.length=H) :
  Calls prog 250 #[pointer (some ⟨n,H,none⟩)] f fun e p=>e=returned (int i64 (oe w))/\p=f:=by
 obtain⟨q,r,s,t,u,v,x,y,z,A,k,l,m⟩:=h.cells H j;cases c:(w.Zby==1)
 ·cases g:(w.Zby==2)
  all_goals
   have a:Xq (oe w=if(w.Zby==1)=true∨(w.Zby==2)=true then 2 else 1):=rfl;go_enter func250,ntmps250;go_wp2;go_ret;exact⟨au (by rw[a.o,c,g];simp),rfl⟩
 ·have a:Xq (oe w=2):=by show oe w=_;simp only[oe,c];simp
  go_enter func250,ntmps250;go_wp2;go_ret;exact⟨au (by rw[a.o]),rfl⟩
theorem NX(o:aD f N (aE M))(r:y<=1073741824) :
  Calls prog 261 #[slice N.ao M.length N.cap,int i64 y] f fun e s=>e=returned (slice N.ao (if y<=M.length then y else M.length) N.cap)/\s=f:=by
 obtain⟨t,c⟩:=N;by_cases a:y<=M.length
 ·rcases o.Zbu with ⟨d,n,_⟩ | ⟨g,p,j,k,l,m,_⟩
  ·have b:M.length=0:=n;have i:y=0:=(by omega);subst i
   injection d with d k
   subst d k;simp only[if_pos a];rw[b];clear o n a b r;go_enter func261,ntmps261;go_wp2;go_ret;exact⟨rfl,rfl⟩
  ·simp only at j l m;have q:M.length<=c:=l;unfold maxLen at m;subst j;simp only[if_pos a];go_enter func261,ntmps261;go_wp2;go_ret;exact⟨rfl,rfl⟩
 ·simp only[if_neg a];go_enter func261,ntmps261;go_wp2;go_ret;exact⟨rfl,rfl⟩
theorem aD.cut(o:aD a z7 (aE z8))(c:Nat)(t:c<=z8.length):aD a z7 (aE (z8.take c)):=by
 have e:(z8.take c).length=c:=by simp;omega
 rcases o.Zbu with ⟨m,q,_⟩ | ⟨g,d,i,n,j,k,l,p⟩
 ·have r:z8.length=0:=q;have:c=0:=by omega
  subst this;subst m;exact⟨by simp[aE,dc],XQ ⟨by simp[aE],by simp[aE]⟩⟩
 ·obtain⟨s,b⟩:=z7;simp only at i j k l;subst i;refine⟨by simp[aE,dc],XK ⟨g,b,d,rfl,XX _,n,?_,k,l,?_⟩⟩
  ·have:z8.length<=b:=j;simp only[aE];omega
  ·have f:d.toList.take (z8.length*1)=dc z8:=p;simp only[aE,e];have:dc (z8.take c)=(dc z8).take c:=by simp[dc,List.map_take]
   rw[this,<-f,ZaE];congr 1;omega
theorem zb0:(prog.info? 337).map (fun i=>(i.zero,i.size,i.bytes))=some (some (agg #[int i64 0,int i64 0]),2,16):=by kernel_rfl
theorem vu:pairs (L++[z3])=pairs L++[int i64 z3.1,int i64 z3.2]:=by simp[pairs]
theorem Pi:(⟨(qN L).e,(qN L).size,(qN L).n+1,(qN L).xs++[int i64 z3.1,int i64 z3.2]⟩:eD)=qN (L++[z3]):=by
 simp[qN,vu]
set_option maxRecDepth 100000
theorem zO(h:a9 f n i d o w b)(x:d.length=H)(O:w.ZbA.length<=1073741824) :
  Calls prog 245 #[pointer (some ⟨n,H,none⟩)] f fun e z=>e=returned (tuple #[])/\∃s,a9 z n i d o { w with ZbA:=w.ZbA++[(w.Zbn.length,w.Zbq.length)] } s/\aw n f b z s:=by
 obtain⟨E,B,p,q,r⟩:=XV zb0;obtain⟨Q,R,S,T,U,V,W,X,Y,Z,F,G,I⟩:=h.cells H x;have A:=h.lt;have v:Xq (a9 (f.alloc (.cells #[int i64 w.Zbn.length,int i64 w.Zbq.length] 337)).drew n i d o w b):=h.Zbj ((aa.refl [] f).alloc _).drew;have J:Xq (∀j u,([int i64 w.Zbn.length,int i64 w.Zbq.length]:List Value)[j]?=some u->(f.alloc (.cells #[int i64 w.Zbn.length,int i64 w.Zbq.length] 337)).drew.cell? ((⟨f.heap.size,0,none⟩:Addr).add j)=some u):=by
  intro j u C;rw[bE];have D:(f.alloc (.cells #[int i64 w.Zbn.length,int i64 w.Zbq.length] 337)).drew.heap[f.heap.size]?=some (.cells #[int i64 w.Zbn.length,int i64 w.Zbq.length] 337):=XD _ _;rw[ab D];simpa using C
 have K:Xq (∀u∈([int i64 w.Zbn.length,int i64 w.Zbq.length]:List Value),u.oneCell'=true):=by
  intro u y;simp at y;rcases y with rfl | rfl <;> rfl
 have L:Xq ((qN w.ZbA).n+1<=maxLen):=by show _<=_;simp only[qN];unfold maxLen;omega
 have M:Xq (((qN w.ZbA).n+1)*16<=140737488355328):=by show _<=_;simp only[qN];omega
 clear h;go_enter func245,ntmps245;go_wp2_with fail;go_region_law (refine bB rfl (.tmp 6) (.tmp 18) 194 rfl E (agg #[int i64 0,int i64 0]) 16 (b 5) (qN w.ZbA) underlying194 B p q r rfl Zaz (by simp[Act.eval] <;> rfl) (v.o.ZbH 5) ⟨f.heap.size,0,none⟩ 1 1 [int i64 w.Zbn.length,int i64 w.Zbq.length] (by simp[Act.eval]) rfl J.o K.o XR L.o M.o ?_;intro g c w1 l k a;obtain⟨P,N,t⟩:=v.o.app (d':={ w with ZbA:=w.ZbA++[(w.Zbn.length,w.Zbq.length)] }) H 5 x 5 (by omega) g c ((qN w.ZbA).n+1) _ l (Pi w.ZbA (w.Zbn.length,w.Zbq.length)) k (by simpa using a) (yH w b _) (by omega) _ rfl (by simp[da,gj,qN]);clear l k a)
 all_goals go_wp2
 all_goals go_end0
 all_goals exact⟨rfl,_,t.o.1,t.o.2.first ((aa.refl [] f).alloc _).drew⟩
theorem rD(l:List (Nat×Nat)):(pairs l).length=l.length*2:=by
 induction l with
 | nil=>rfl
 | cons a r b=>simp only[pairs,List.flatMap_cons,List.length_append,List.length_cons,List.length_nil]at *;omega
theorem AJ:(pairs (L++[z3]))[L.length*2]?=some (int i64 z3.1)/\(pairs (L++[z3]))[L.length*2+1]?=some (int i64 z3.2):=by
 rw[vu];have:=rD L;constructor
 ·rw[XO (by omega),this];simp
 ·rw[XO (by omega),this];simp
theorem aD.pop{l:List (Nat×Nat)}{x:Nat×Nat}(o:aD a z7 (qN (l++[x]))):aD a z7 (qN l):=by
 rcases o.Zbu with ⟨t,r,_⟩ | ⟨g,c,i,n,j,k,m,p⟩
 ·have f:(l++[x]).length=0:=r;simp at f
 ·obtain⟨s,b⟩:=z7;simp only at i j k m;subst i;have d:(l++[x]).length<=b:=j;simp at d;refine⟨by simp only[qN];exact rD l,XK ⟨g,b,c,rfl,XX _,n,?_,k,m,?_⟩⟩
  ·simp only[qN];omega
  ·have e:c.toList.take ((l++[x]).length*2)=pairs (l++[x]):=p;simp only[qN];have q:pairs l=(pairs (l++[x])).take (l.length*2):=by rw[vu,List.take_left' (rD l)]
   rw[q,<-e,ZaE];congr 1;simp
def dI(d:Db)(bl:List (Nat×Nat))(x:Nat×Nat):Db:={ d with ZbA:=bl,Zbn:=d.Zbn.take x.1,Zbq:=d.Zbq.take x.2 }
theorem TY:(M.take T).length=if T<=M.length then T else M.length:=by
 rw[YL];split <;> omega
theorem aD.taken(o:aD a z7 (aE z8))(c:Nat):aD a z7 (aE (z8.take c)):=by
 by_cases b:c<=z8.length
 ·exact o.cut c b
 ·rw[YV (by omega)];exact o
theorem Ak(b:Xq ((M.take H).length=y))(c:aD f N (aE M))(a:H<=1073741824) :
  Calls prog 261 #[slice N.ao M.length N.cap,int i64 H] f fun e d=>e=returned (slice N.ao y N.cap)/\d=f:=by
 have e:y=if H<=M.length then H else M.length:=by rw[<-b.o,TY]
 rw[e];exact NX N M H f c a
theorem tW{d':Db}(h:a9 a D g z4 zf l S)(f:z4.length=z0)(d:y<10)(k:aD a (S y) (bi d' S y))(b:∀j,j≠y->bi d' S j=bi l S j)(u:Value)(c:T<13)(e:(da l S).set T u=da d' (gj S y (S y))) :
  a9 (a.setCell ⟨D,z0+T,none⟩ u) D g z4 zf d' S/\aw D a S (a.setCell ⟨D,z0+T,none⟩ u) S:=by
 have i:=Ug S y;have:=h.put (d':=d') z0 T f y d (S y) k (ZaF _ _) (XK (XQ rfl)) b u c e;rw[i]at this;exact this
theorem Ek(h:a9 f n i d o w b)(A:d.length=H)(E:w.ZbA=L++[z3])(hs:hZ w 1073741824)(hx:z3.1<=1073741824/\z3.2<=1073741824) :
  Calls prog 247 #[pointer (some ⟨n,H,none⟩)] f fun e w'=>e=returned (tuple #[])/\a9 w' n i d o (dI w L z3) b/\aw n f b w' b:=by
 obtain⟨M,N,O,P,Q,y,R,S,T,U,r,s,t⟩:=h.cells H A;obtain⟨a,j⟩:=z3;simp only at hx;have q:=h.free;have af:=h.lt;have I:=h.ZbH 5;have c:aD f (b 5) (qN (L++[(a,j)])):=by have:=I;simp only[bi,E]at this;exact this
 have x:=hs.ZbA;rw[E]at x y;simp only[List.length_append,List.length_cons,List.length_nil]at x y;rcases c.Zbu with ⟨e0,h0,_⟩ | ⟨g,ad,K,e2,e3,e4,e5,e6⟩
 ·have Y:(L++[(a,j)]).length=0:=h0;simp at Y
 ·have p1:=c.cell K (L.length*2) _ (AJ L (a,j)).1;have p2:=c.cell K (L.length*2+1) _ (AJ L (a,j)).2;have ac:L.length+1<=(b 5).cap:=by have:(L++[(a,j)]).length<=(b 5).cap:=e3;simpa using this
  have W:=tW 5 5 (d':={ w with ZbA:=L }) h A (by omega) c.pop (yH w b L) (slice (some ⟨g,0,none⟩) L.length (b 5).cap) (by omega) (by simp[da,gj,K]);obtain⟨u,l⟩:∃u,u=(f.setCell ⟨n,H+5,none⟩ (slice (some ⟨g,0,none⟩) L.length (b 5).cap)).alloc (.cells #[int i64 a,int i64 j] 337):=⟨_,rfl⟩
  have z:a9 u n i d o { w with ZbA:=L } b:=by rw[l];exact W.1.Zbj (bH.alloc _)
  have T2:aw n f b u b:=by rw[l];exact W.2.Zbj (bH.alloc _)
  have V:u.heap[f.heap.size]?=some (.cells #[int i64 a,int i64 j] 337):=by
   rw[l];have:=XD (f.setCell ⟨n,H+5,none⟩ (slice (some ⟨g,0,none⟩) L.length (b 5).cap)) (.cells #[int i64 a,int i64 j] 337);simpa [World.setCell] using this
  have HW:Xq ((f.setCell ⟨n,H+5,none⟩ (slice (some ⟨g,0,none⟩) L.length (b 5).cap)).alloc (.cells #[int i64 a,int i64 j] 337)=u):=l.symm;rw[K]at y;simp only at p1 p2;clear I c e3 e4 e5 e6 e2 h W l;go_enter func247,ntmps247;go_upto_region 4 with fail
  rw[HW.o];obtain⟨c0,c1⟩:=uY V;have Z:f.heap.size≠n:=by omega
  clear HW M N O P Q y R S T U r s t p1 p2 q;obtain⟨M,N,O,P,Q,y,R,S,T,U,r,s,t⟩:=z.cells H A;have q:=z.free;obtain⟨J,F⟩:∃m,Xq ((w.Zbn.take a).length=m):=⟨_,rfl⟩
  obtain⟨m2,G⟩:∃m,Xq ((w.Zbq.take j).length=m):=⟨_,rfl⟩
  have X:=tW 3 3 (d':={ w with ZbA:=L,Zbn:=w.Zbn.take a }) z A (by omega) ((z.ZbH 3).taken a) (yG { w with ZbA:=L } b (w.Zbn.take a)) (slice (b 3).ao J (b 3).cap) (by omega) (by simp only[da,dS,<-F.o];rfl);obtain⟨v,p⟩:∃v,v=(u.setCell ⟨n,H+3,none⟩ (slice (b 3).ao J (b 3).cap)).drew:=⟨_,rfl⟩
  have B:Xq (a9 v n i d o { w with ZbA:=L,Zbn:=w.Zbn.take a } b):=by rw[p];exact X.1.Zbj bH.drew
  have T3:Xq (aw n f b v b):=by rw[p];exact T2.trans (X.2.Zbj bH.drew)
  have B3:Xq (v.heap[f.heap.size]?=some (.cells #[int i64 a,int i64 j] 337)):=by
   show v.heap[f.heap.size]?=_;rw[p];exact(XN u ⟨n,H+3,none⟩ (slice (b 3).ao J (b 3).cap) f.heap.size Z).trans V
  have D:Xq ((u.setCell ⟨n,H+3,none⟩ (slice (b 3).ao J (b 3).cap)).drew=v):=p.symm;clear p X;go_region_with (go_at_call 261;refine(Ak (b 3) w.Zbn a J _ F (by exact z.ZbH 3) hx.1).mono ?_;rintro e v ⟨rfl,rfl⟩)
  all_goals go_upto_region 5 with fail
  all_goals rw[D.o]
  all_goals
   clear D M N O P Q y R S T U r s t q z T2 V c0 c1;obtain⟨c0,c1⟩:=uY B3.o;obtain⟨M,N,O,P,Q,y,R,S,T,U,r,s,t⟩:=B.o.cells H A;have q:=B.o.free;have P4:=tW 4 4 (d':=dI w L (a,j)) B.o A (by omega) ((B.o.ZbH 4).taken j) (Bg { w with ZbA:=L,Zbn:=w.Zbn.take a } b (w.Zbq.take j)) (slice (b 4).ao m2 (b 4).cap) (by omega) (by simp only[da,dI,dS,<-G.o];rfl);have C:Xq _:=P4;clear P4;go_region_with (go_at_call 261;refine(Ak (b 4) w.Zbq j m2 _ G (by exact B.o.ZbH 4) hx.2).mono ?_;rintro e v ⟨rfl,rfl⟩)
   all_goals go_wp2
   all_goals go_end0
   all_goals exact⟨rfl,C.o.1.Zbj bH.drew,T3.o.trans (C.o.2.Zbj bH.drew)⟩
theorem GA{α:Type}(f:α->List Value)(n:Nat)(b:∀a,(f a).length=n)(l:List α):(l.flatMap f).length=l.length*n:=by
 induction l with
 | nil=>simp
 | cons a l c=>simp only[List.flatMap_cons,List.length_append,b,c,List.length_cons];rw[Zac];omega
theorem Gz{α:Type}(f:α->List Value)(n:Nat)(b:∀a,(f a).length=n)(l:List α)(i j:Nat)(c:i<l.length)(g:j<n):(l.flatMap f)[i*n+j]?=(f l[i])[j]?:=by
 induction l generalizing i with
 | nil=>simp at c
 | cons a l d =>
  rw[Yz];cases i with
  | zero=>rw[XP (by rw[b];omega)];simp
  | succ i =>
   have e:(i+1)*n+j=n+(i*n+j):=(by rw[Zac];omega);rw[XO (by rw[b,e];omega),b,e,show n+(i*n+j)-n=i*n+j by omega];exact d i (by simpa using c)
theorem Rp{α:Type}(f:α->List Value)(n:Nat)(b:∀a,(f a).length=n)(l:List α)(i j:Nat)(g:i<l.length)(m:j<n)(c:α)(v:Value)(d:f c=(f l[i]).set j v) :
  (l.flatMap f).set (i*n+j) v=(l.set i c).flatMap f:=by
 induction l generalizing i with
 | nil=>simp at g
 | cons a l k =>
  cases i with
  | zero =>
   rw[ZaG,Yz,Yz,Zab _ _ (by rw[b];omega),d];simp
  | succ i =>
   have e:(i+1)*n+j=n+(i*n+j):=(by rw[Zac];omega);rw[ZG,Yz,Yz,Zr _ _ (by rw[b,e];omega),b,e,show n+(i*n+j)-n=i*n+j by omega];rw[k i (by simpa using g) (by simpa using d)]
theorem TN:(oG v z5).length=v.length*8:=by
 unfold oG;rw[GA _ 8 (fun _=>rfl)];simp
theorem LO:(qn zt).length=zt.length*4:=GA _ 4 (fun _=>rfl) zt
theorem Nd(a:T<v.length)(j:Nat)(b:j<8):(oG v z5)[T*8+j]?=(PC v[T] (z5 (10+2*T)) (z5 (11+2*T)))[j]?:=by
 unfold oG;rw[Gz _ 8 (fun _=>rfl) _ T j (by simpa using a) b];simp
theorem Qj(a:T<zt.length)(j:Nat)(b:j<4):(qn zt)[T*4+j]?=(uQ zt[T])[j]?:=Gz _ 4 (fun _=>rfl) zt T j a b
theorem PV:oG (v++[y9]) z5=oG v z5++PC y9 (z5 (10+2*v.length)) (z5 (11+2*v.length)):=by
 unfold oG;rw[List.zipIdx_append];simp
theorem LR:(v.set H y9).zipIdx=v.zipIdx.set H (y9,H):=by
 apply YR;intro j;simp only[List.getElem?_zipIdx,List.getElem?_set,List.length_zipIdx];by_cases e:H=j
 ·subst e;by_cases a:H<v.length <;> simp[a]
 ·simp[e]
theorem TO(a:T<v.length)(N:Nat):(oG v z5).set (T*8+7) (int i64 N)=oG (v.set T { v[T] with til:=N }) z5:=by
 unfold oG;rw[LR];exact Rp _ 8 (fun _=>rfl) _ T 7 (by simpa using a) (by omega) _ _ (by simp[PC])
theorem IR:(dc M).length=M.length*1:=by simp[dc]
theorem Df:eR (I++[T])=eR I++[int i64 T]:=by simp[eR]
theorem oQ:(⟨(bK I).e,(bK I).size,(bK I).n+1,(bK I).xs++[int i64 T]⟩:eD)=bK (I++[T]):=by simp[bK,Df]
theorem C3:(prog.info? 3).map (fun i=>(i.zero,i.size,i.bytes))=some (some (int i64 0),1,8):=by kernel_rfl
def sU(k:Int):Bool:=k==4||k==5
set_option maxRecDepth 512
theorem eW(c d f g i j l:Value)(w:World) :
  Calls prog 159 #[agg #[int i64 k,c,d,f,g,i,j,l]] w fun e m=>e=returned (bool (sU k))/\aa [] w m:=by
 cases b:(k==4)
 ·have a:Xq (sU k=(k==5)):=by show sU k=_;simp only[sU,b,Bool.false_or]
  go_enter func159,ntmps159;go_wp2;go_ret;exact⟨aH (by rw[a.o]),(aa.refl _ _).alloc _⟩
 ·have a:Xq (sU k=true):=by show sU k=_;simp only[sU,b,Bool.true_or]
  go_enter func159,ntmps159;go_wp2;go_ret;exact⟨aH (by rw[a.o]),(aa.refl _ _).alloc _⟩
set_option maxRecDepth 100000
theorem Fa(h:a9 f n i d o w b)(A:d.length=H)(J:hZ w 100000000) :
  Calls prog 246 #[pointer (some ⟨n,H+6,none⟩)] f fun e C=>e=returned (tuple #[])/\∃x,a9 C n i d o { w with rbl:=w.rbl++[w.Zbv.length] } x/\aw n f b C x:=by
 obtain⟨K,E,m,p,q⟩:=XV C3;obtain⟨L,M,N,O,P,Q,Z,q7,R,S,r,s,t⟩:=h.cells H A;clear L M N O P Q R S r s t;have D:=h.lt;have I:=J.rbl;have z:Xq (a9 (f.alloc (.cells #[int i64 w.Zbv.length] 3)).drew n i d o w b):=h.Zbj ((aa.refl [] f).alloc _).drew;have T:Xq (∀j u,([int i64 w.Zbv.length]:List Value)[j]?=some u->(f.alloc (.cells #[int i64 w.Zbv.length] 3)).drew.cell? ((⟨f.heap.size,0,none⟩:Addr).add j)=some u):=by
  intro j u F;have G:(f.alloc (.cells #[int i64 w.Zbv.length] 3)).drew.heap[f.heap.size]?=some (.cells #[int i64 w.Zbv.length] 3):=XD _ _;rw[bE,ab G];simpa using F
 have U:Xq (∀u∈([int i64 w.Zbv.length]:List Value),u.oneCell'=true):=by intro u B;simp at B;subst B;rfl
 have V:Xq ((bK w.rbl).n+1<=maxLen):=by show _<=_;simp only[bK];unfold maxLen;omega
 have W:Xq (((bK w.rbl).n+1)*8<=140737488355328):=by show _<=_;simp only[bK];omega
 clear h;go_enter func246,ntmps246;go_wp2_with fail;go_region_law (refine bB rfl (.tmp 6) (.tmp 12) 25 rfl K (int i64 0) 8 (b 7) (bK w.rbl) underlying25 E m p q rfl XR (by simp[Act.eval] <;> rfl) (z.o.ZbH 7) ⟨f.heap.size,0,none⟩ 1 1 [int i64 w.Zbv.length] (by simp[Act.eval]) rfl T.o U.o XR V.o W.o ?_;intro g c w1 l k a;obtain⟨Y,X,y⟩:=z.o.app (d':={ w with rbl:=w.rbl++[w.Zbv.length] }) H 7 A 7 (by omega) g c ((bK w.rbl).n+1) _ l (oQ w.rbl _) k (by simpa using a) (IA w b _) (by omega) _ rfl (by simp[da,gj,bK]);clear l k a)
 all_goals go_wp2
 all_goals go_end0
 all_goals exact⟨rfl,_,y.o.1,y.o.2.first ((aa.refl [] f).alloc _).drew⟩
def ma(N:Nat)(s:St):St:=if s.til=0/\sU s.Zby=false then { s with til:=N } else s
def ia(l:List St)(b n:Nat):List St:=l.mapIdx (fun i s=>if b<=i/\i<n then ma l.length s else s)
def ig(l:List St)(b:Nat):List St:=ia l b l.length
theorem lP:(ia v y T).length=v.length:=by simp[ia]
theorem mU:(ia v H y)[T]?=v[T]?.map (fun s=>if H<=T/\T<y then ma v.length s else s):=by simp[ia]
theorem Gl:ia v T T=v:=by
 apply YR;intro i;rw[mU];have:¬(T<=i/\i<T):=by omega
 simp[this]
theorem Ad(b:y<=T)(c:T<v.length):ia v y (T+1)=(ia v y T).set T (ma v.length v[T]):=by
 apply YR;intro i;rw[Yv,mU,mU,lP];by_cases e:T=i
 ·subst e;have a:y<=T/\T<T+1:=⟨b,by omega⟩;simp[c,a]
 ·have:(y<=i/\i<T+1) ↔ (y<=i/\i<T):=by omega
  simp[e,this]
theorem JU(b:y<=T)(a:T<v.length)(h:ma v.length v[T]=v[T]):ia v y (T+1)=ia v y T:=by
 rw[Ad v y T b a,h];apply YR;intro i;rw[Yv,lP];by_cases e:T=i
 ·subst e;rw[mU];simp[a]
 ·simp[e]
theorem Rg(a:T<v.length):(ia v y T)[T]?=some v[T]:=by
 rw[mU];simp[a]
theorem Bs(b:T<v.length)(N:Nat)(i:Nat):symsAt (v.set T { v[T] with til:=N }) i=symsAt v i/\wL (v.set T { v[T] with til:=N }) i=wL v i:=by
 unfold symsAt wL;rw[Yv];by_cases e:T=i
 ·subst e;simp[b]
 ·simp[e]
theorem a9.til(h:a9 a D g z4 zf l S)(d:Nat)(s:(S 6).ao=some ⟨d,0,none⟩)(n:Nat)(u:n<l.Zbv.length)(N:Nat) :
  a9 (a.setCell ⟨d,n*8+7,none⟩ (int i64 N)) D g z4 zf { l with Zbv:=l.Zbv.set n { l.Zbv[n] with til:=N } } S/\aw D a S (a.setCell ⟨d,n*8+7,none⟩ (int i64 N)) S:=by
 have b:(S 6).Zbx=some d:=by unfold Hd.Zbx;rw[s];rfl
 have t:d≠D:=by rintro rfl;exact h.off 6 b
 refine⟨⟨?_,?_,h.apart,h.off⟩,(fB.refl _ _).setCell (XQ (XK ⟨6,b⟩)) _,fun _ j=>XQ j⟩
 ·rw[XN _ _ _ _ (fun e=>t e.symm),h.Zbx];simp[da]
 ·intro i;by_cases e:i=6
  ·subst e;have E:aD a (S 6) (jY l.Zbv S):=h.ZbH 6;show aD _ (S 6) (jY (l.Zbv.set n { l.Zbv[n] with til:=N }) S);rcases E.Zbu with ⟨F,B,_⟩ | ⟨v,f,c,w,x,y,z,A⟩
   ·have:l.Zbv.length=0:=B;omega
   ·have:v=d:=(by rw[s]at c;injection c with c;injection c with c;exact c.symm);subst this;refine⟨by simp only[jY];rw[TN],XK ⟨v,(S 6).cap,f.setIfInBounds (n*8+7) (int i64 N),?_,XX _,ae w _ _,?_,y,?_,?_⟩⟩
    ·simp[jY,s]
    ·simpa [jY] using x
    ·simpa [jY] using z
    ·have r:f.toList.take (l.Zbv.length*8)=oG l.Zbv S:=A;simp only[jY,List.length_set,Array.toList_setIfInBounds,List.take_set,r];exact TO l.Zbv S n u N
  ·have C:bi { l with Zbv:=l.Zbv.set n { l.Zbv[n] with til:=N } } S i=bi l S i:=by
    match i,e with
    | 0,_=>rfl
    | 1,_=>rfl
    | 2,_=>rfl
    | 3,_=>rfl
    | 4,_=>rfl
    | 5,_=>rfl
    | 6,e=>exact absurd rfl e
    | 7,_=>rfl
    | 8,_=>rfl
    | 9,_=>rfl
    | m+10,_=>simp only[bi,inner,(Bs l.Zbv n u N (m / 2)).1,(Bs l.Zbv n u N (m / 2)).2]
   rw[C];refine(h.ZbH i).Zbo (fun k j=>XN _ _ _ _ ?_);rintro rfl;rcases h.apart i 6 e with q | q
   ·rw[q]at j;cases j
   ·exact q (j.trans b.symm)
theorem a9.stmt(h:a9 a D g z4 zf l S)(b:Nat)(d:(S 6).ao=some ⟨b,0,none⟩)(n:Nat)(s:St)(i:l.Zbv[n]?=some s) :
  a.cell? ⟨b,n*8,none⟩=some (int i64 s.Zby)/\a.cell? ⟨b,n*8+1,none⟩=some (string s.Zbz)/\a.cell? ⟨b,n*8+2,none⟩=some (slice (S (10+2*n)).ao s.Zbe.length (S (10+2*n)).cap) /\
  a.cell? ⟨b,n*8+3,none⟩=some (slice (S (11+2*n)).ao s.Zbp.length (S (11+2*n)).cap)/\a.cell? ⟨b,n*8+4,none⟩=some (string s.ZbC.ZbD)/\a.cell? ⟨b,n*8+5,none⟩=some (int i64 s.ZbC.ZbE) /\
  a.cell? ⟨b,n*8+6,none⟩=some (int i64 s.ZbC.ZbF)/\a.cell? ⟨b,n*8+7,none⟩=some (int i64 s.til):=by
 obtain⟨f,rfl⟩:=XL.1 i;have m:aD a (S 6) (jY l.Zbv S):=h.ZbH 6;have c:=fun j (e:j<8) v (k:(PC l.Zbv[n] (S (10+2*n)) (S (11+2*n)))[j]?=some v)=>m.cell d (n*8+j) v ((Nd l.Zbv S n f j e).trans k);exact⟨c 0 (by omega) _ rfl,c 1 (by omega) _ rfl,c 2 (by omega) _ rfl,c 3 (by omega) _ rfl,c 4 (by omega) _ rfl,c 5 (by omega) _ rfl,c 6 (by omega) _ rfl,c 7 (by omega) _ rfl⟩
theorem Hh:(eR I).length=I.length*1:=by simp[eR]
theorem aD.popN{l:Xu}(o:aD a z7 (bK (l++[D]))):aD a z7 (bK l):=by
 rcases o.Zbu with ⟨t,r,_⟩ | ⟨g,c,i,n,j,k,m,p⟩
 ·have f:(l++[D]).length=0:=r;simp at f
 ·obtain⟨s,b⟩:=z7;simp only at i j k m;subst i;have d:(l++[D]).length<=b:=j;simp at d;refine⟨by simp only[bK];exact Hh l,XK ⟨g,b,c,rfl,XX _,n,?_,k,m,?_⟩⟩
  ·simp only[bK];omega
  ·have e:c.toList.take ((l++[D]).length*1)=eR (l++[D]):=p;simp only[bK];have q:eR l=(eR (l++[D])).take (l.length*1):=by rw[Df,List.take_left' (Hh l)]
   rw[q,<-e,ZaE];congr 1;simp
theorem KM(h:a9 f n i d o w b)(ho:d.length=H)(O:w.rbl=I++[y])(hs:hZ w 100000000)(hx:y<=w.Zbv.length) :
  Calls prog 248 #[pointer (some ⟨n,H+6,none⟩)] f fun e w'=>e=returned (tuple #[])/\a9 w' n i d o { w with rbl:=I,Zbv:=ig w.Zbv y } b/\aw n f b w' b:=by
 obtain⟨R,S,U,V,W,X,E,v,Y,Z,j,l,m⟩:=h.cells H ho;clear R S U V W X Y Z j l m;have B:=h.free;have r:aD f (b 7) (bK (I++[y])):=by have:=h.ZbH 7;simp only[bi,O]at this;exact this
 have u:=hs.rbl;have ai:=hs.Zbv;rw[O]at u v;simp only[List.length_append,List.length_cons,List.length_nil]at u v;rcases r.Zbu with ⟨e0,h0,_⟩ | ⟨g,ao,e1,e2,e3,e4,e5,x⟩
 ·have ad:(I++[y]).length=0:=h0;simp at ad
 ·have p1:=r.cell e1 I.length (int i64 y) (by simp[bK,eR]);have an:I.length+1<=(b 7).cap:=by have:(I++[y]).length<=(b 7).cap:=e3;simpa using this
  have P1:=tW 7 7 (d':={ w with rbl:=I }) h ho (by omega) r.popN (IA w b I) (slice (some ⟨g,0,none⟩) I.length (b 7).cap) (by omega) (by simp[da,gj,e1]);rw[e1]at v;have HP:Xq _:=P1;clear r e3 e4 e5 x e2 h P1;go_enter func248,ntmps248;go_wp2
  go_loopg [4] (w.Zbv.length-y) (fun g aq wr=>∃k:Nat,y<=k/\k<=w.Zbv.length/\g=w.Zbv.length-k/\aq=int i64 k/\a9 wr n i d o { w with rbl:=I,Zbv:=ia w.Zbv y k } b/\aw n f b wr b)
  ·exact⟨y,by omega,hx,rfl,rfl,by rw[Gl];exact HP.o.1,HP.o.2⟩
  obtain⟨k,c,ap,hg,rfl,D,T⟩:=hrel;clear HP E v p1 B;obtain⟨R,S,U,V,W,X,E,v,Y,Z,j,l,m⟩:=D.cells H ho;clear R S U V W X v Y Z j l m;have B:=D.free;simp only[lP]at E;by_cases q:k<w.Zbv.length
  ·have p:=Rg w.Zbv y k q;have Q:aD wr (b 6) (jY (ia w.Zbv y k) b):=D.ZbH 6;rcases Q.Zbu with ⟨_,h0,_⟩ | ⟨L,am,x,z,ac,-⟩
   ·have:(ia w.Zbv y k).length=0:=h0;rw[lP]at this;omega
   ·obtain⟨c0,c1,c2,c3,c4,c5,c6,c7⟩:=D.stmt L x k _ p;rw[x]at E;have A:=zcW z;have HS:Xq (∀N:Nat,a9 wr n i d o { w with rbl:=I,Zbv:=ia w.Zbv y k } b->∀F,aa [] wr F->a9 (F.setCell ⟨L,k*8+7,none⟩ (int i64 N)) n i d o { w with rbl:=I,Zbv:=(ia w.Zbv y k).set k { w.Zbv[k] with til:=N } } b/\aw n f b (F.setCell ⟨L,k*8+7,none⟩ (int i64 N)) b):=by
     intro N D F c;have G:=D.Zbj c;have hn:k<(ia w.Zbv y k).length:=by rw[lP];exact q
     have P:=G.til L x k hn N;have es:(ia w.Zbv y k)[k]=w.Zbv[k]:=(by have:=p;rw[Xv hn]at this;simpa using this);simp only[es]at P;exact⟨P.1,(T.Zbj c).trans P.2⟩
    have J:Xq (ma w.Zbv.length w.Zbv[k]=w.Zbv[k]->ia w.Zbv y (k+1)=ia w.Zbv y k):=JU w.Zbv y k c q;have H2:Xq (ia w.Zbv y (k+1)=(ia w.Zbv y k).set k (ma w.Zbv.length w.Zbv[k])):=Ad w.Zbv y k c q;have ag:=z;have M:Xq _:=p;clear p Q z ac;generalize w.Zbv[k]=s at *;cases hz:((s.til:Int)==0)
    ·have K:Xq (ia w.Zbv y (k+1)=ia w.Zbv y k):=J.o (by
      have:¬s.til=0:=by intro e;simp[e]at hz
      simp[ma,this])
     clear HS J H2 A;go_wp2;go_roundg (w.Zbv.length-(k+1))
     ·exact⟨k+1,by omega,by omega,rfl,by go_num,by rw[K.o];exact D,T⟩
     omega
    ·have C:s.til=0:=(by have:=ZR hz;omega);cases ha:sU s.Zby
     ·have K:Xq (ia w.Zbv y (k+1)=(ia w.Zbv y k).set k { s with til:=w.Zbv.length }):=by
       show _=_;rw[H2.o];simp[ma,C,ha]
      clear J H2 C;go_wp2_with (go_at_call 159;refine(eW s.Zby _ _ _ _ _ _ _ _).mono ?_;rintro e F ⟨rfl,a⟩;have af:=a.get ag (by simp));have G:=D.Zbj a;have PS:Xq _:=(fun N=>HS.o N D _ a);obtain⟨R,S,U,V,W,X,E,v,Y,Z,j,l,m⟩:=G.cells H ho;clear R S U V W X v Y Z j l m;simp only[lP,x]at E;obtain⟨c0,c1,c2,c3,c4,c5,c6,c7⟩:=G.stmt L x k _ M.o;clear c0 c1 c2 c3 c4 c5 c6;have A:=zcW af;have B:=G.free;go_region
      all_goals go_wp2
      all_goals
       go_roundg (w.Zbv.length-(k+1))
       ·exact⟨k+1,by omega,by omega,rfl,by go_num,by rw[K.o];exact(PS.o _).1.Zbj bH.drew,(PS.o _).2.Zbj bH.drew⟩
       omega
     ·have K:Xq (ia w.Zbv y (k+1)=ia w.Zbv y k):=J.o (by simp[ma,ha]);clear HS J H2 A C;go_wp2_with (go_at_call 159;refine(eW s.Zby _ _ _ _ _ _ _ _).mono ?_;rintro e F ⟨rfl,a⟩);go_roundg (w.Zbv.length-(k+1))
      ·exact⟨k+1,by omega,by omega,rfl,by go_num,by rw[K.o];exact D.Zbj a,T.Zbj a⟩
      omega
  ·have e:k=w.Zbv.length:=(by omega);subst e;go_wp2;go_end0;exact⟨rfl,D,T⟩
theorem zb2:(prog.info? 158).map (fun i=>(i.zero,i.size,i.bytes))=some (some (agg #[int i64 0,string ⟨#[]⟩,slice none 0 0,slice none 0 0,string ⟨#[]⟩,int i64 0,int i64 0,int i64 0]),8,112):=by kernel_rfl
theorem Xd:(prog.info? 229).map (fun i=>(i.zero,i.size,i.bytes))=some (some (agg #[string ⟨#[]⟩,string ⟨#[]⟩,int i64 0,int i64 0]),4,48):=by kernel_rfl
theorem yK(h:∀j,j<10+2*v.length->z5 j=b j):oG v z5=oG v b:=by
 unfold oG;rw[Zax,Zax];congr 1;apply YU;intro p a;have:p.2<v.length:=by
  have:=List.snd_lt_add_of_mem_zipIdx a;omega
 rw[h _ (by omega),h _ (by omega)]
theorem To(o:aD ya N (aE M)):aD ya N (aE []):=by
 have:=o.taken 0;simpa using this
theorem Tq(o:aD ya N (jd zt)):aD ya N (jd []):=by
 rcases o.Zbu with ⟨f,m,_⟩ | ⟨g,b,c,i,j,d,e,l⟩
 ·subst f;exact⟨by simp[jd,qn],XQ ⟨by simp[jd],by simp[jd]⟩⟩
 ·obtain⟨k,a⟩:=N;simp only at c j d e;subst c;exact⟨by simp[jd,qn],XK ⟨g,a,b,rfl,XX _,i,by simp[jd],d,e,by simp[jd,qn]⟩⟩
theorem a9.addst{w1:World}(O:a9 a D g z4 zf l S)(C:aa [] a z6)(ho:z4.length=z0)(s:St)(A z:Hd)(J I:Nat)(X:A.Zbx=some J)(V:z.Zbx=some I)(W:a.heap.size<=J)(U:a.heap.size<=I)(E:J≠I)(os:aD z6 A (aE s.Zbe))(op:aD z6 z (jd s.Zbp))(w o:Nat)(Y:aD w1 ⟨some ⟨w,0,none⟩,o⟩ ⟨(jY l.Zbv S).e,(jY l.Zbv S).size,(jY l.Zbv S).n+1,(jY l.Zbv S).xs++PC s A z⟩)(B:z6.grownBy w1 (S 6).Zbx)(y:(S 6).Zbx=some w∨z6.heap.size<=w) :
  w1.cell? ⟨D,z0+6,none⟩=some (slice (S 6).ao l.Zbv.length (S 6).cap)/\w1.frozen? ⟨D,z0+6,none⟩=false /\
  Xq (∃M,a9 (w1.setCell ⟨D,z0+6,none⟩ (slice (some ⟨w,0,none⟩) ((jY l.Zbv S).n+1) o)) D g z4 zf { l with Zbv:=l.Zbv++[s] } M /\
   aw D a S (w1.setCell ⟨D,z0+6,none⟩ (slice (some ⟨w,0,none⟩) ((jY l.Zbv S).n+1) o)) M/\∀j,j<10->j≠6->M j=S j):=by
 have h:=O.Zbj C;have K:=(B.block D h.lt (fun e=>h.off 6 e.symm)).trans h.Zbx;refine⟨(ab K (z0+6)).trans (EM z4 (da l S) zf z0 6 ho (by simp[da])),zcW K _,?_⟩;have R:=fun {k} (K:eG S k)=>O.inlt K;have ac:=O.lt;obtain⟨d,x⟩:∃d,d=gj (gj S (10+2*l.Zbv.length) A) (11+2*l.Zbv.length) z:=⟨_,rfl⟩
 have p:∀j,j≠10+2*l.Zbv.length->j≠11+2*l.Zbv.length->d j=S j:=fun j b c=>by rw[x,cJ _ _ _ _ c,cJ _ _ _ _ b]
 have G:d (10+2*l.Zbv.length)=A:=by rw[x,cJ _ _ _ _ (by omega),dS]
 have H:d (11+2*l.Zbv.length)=z:=by rw[x,dS]
 have e4:oG l.Zbv d=oG l.Zbv S:=yK _ _ _ (fun j v=>p j (by omega) (by omega));clear x;have el:da l d=da l S:=by
  unfold da;rw[p 0 (by omega) (by omega),p 1 (by omega) (by omega),p 2 (by omega) (by omega),p 3 (by omega) (by omega),p 4 (by omega) (by omega),p 5 (by omega) (by omega),p 6 (by omega) (by omega),p 7 (by omega) (by omega),p 8 (by omega) (by omega),p 9 (by omega) (by omega)]
 have er:∀j,bi l d j=bi l S j:=by
  intro j;unfold bi;split <;> first | rfl | (simp only[jY,e4])
 have F:∀j,(d j).Zbx=(S j).Zbx∨((d j).Zbx=some J/\j=10+2*l.Zbv.length)∨((d j).Zbx=some I/\j=11+2*l.Zbv.length):=by
  intro j;by_cases b:j=10+2*l.Zbv.length
  ·subst b;rw[G];exact XK (XQ ⟨X,rfl⟩)
  ·by_cases c:j=11+2*l.Zbv.length
   ·subst c;rw[H];exact XK (XK ⟨V,rfl⟩)
   ·rw[p j b c];exact XQ rfl
 have D1:a9 z6 D g z4 zf l d:=by
  refine⟨by rw[el];exact h.Zbx,?_,?_,?_⟩
  ·intro j;rw[er j];by_cases b:j=10+2*l.Zbv.length
   ·subst b;rw[G];have:bi l S (10+2*l.Zbv.length)=aE []:=by
     rw[show 10+2*l.Zbv.length=2*l.Zbv.length+10 by omega];simp[bi,inner,symsAt]
    rw[this];exact To z6 A _ os
   ·by_cases c:j=11+2*l.Zbv.length
    ·subst c;rw[H];have:bi l S (11+2*l.Zbv.length)=jd []:=by
      rw[show 11+2*l.Zbv.length=(2*l.Zbv.length+1)+10 by omega];have q:(2*l.Zbv.length+1) % 2=1:=by omega
      have Z:(2*l.Zbv.length+1) / 2=l.Zbv.length:=(by omega);simp[bi,inner,wL,q,Z]
     rw[this];exact Tq z6 z _ op
    ·rw[p j b c];exact h.ZbH j
  ·intro i j Q;have f:∀i k,(S i).Zbx=some k->k<a.heap.size:=fun i k e=>R ⟨i,e⟩;rcases F i with b | ⟨b,ai⟩ | ⟨b,ai⟩ <;> rcases F j with c | ⟨c,cj⟩ | ⟨c,cj⟩ <;> rw[b,c]
   ·exact h.apart i j Q
   ·cases e:(S i).Zbx with
    | none=>exact XQ rfl
    | some k=>right;intro t;cases t;have:=f i _ e;omega
   ·cases e:(S i).Zbx with
    | none=>exact XQ rfl
    | some k=>right;intro t;cases t;have:=f i _ e;omega
   ·right;intro t;have:=f j _ t.symm;omega
   ·omega
   ·right;intro t;cases t;exact E rfl
   ·right;intro t;have:=f j _ t.symm;omega
   ·right;intro t;cases t;exact E rfl
   ·omega
  ·intro j;rcases F j with b | ⟨b,_⟩ | ⟨b,_⟩ <;> rw[b]
   ·exact h.off j
   ·intro e;cases e;omega
   ·intro e;cases e;omega
 have T1:aw D a S z6 d:=by
  refine⟨C.toP (by simp),?_⟩;rintro k ⟨j,v⟩;rcases F j with b | ⟨b,_⟩ | ⟨b,_⟩ <;> rw[b]at v
  ·exact XQ ⟨j,v⟩
  ·cases v;exact XK W
  ·cases v;exact XK U
 have h6:d 6=S 6:=p 6 (by omega) (by omega);have N:bi { l with Zbv:=l.Zbv++[s] } d 6=⟨(jY l.Zbv S).e,(jY l.Zbv S).size,(jY l.Zbv S).n+1,(jY l.Zbv S).xs++PC s A z⟩:=by
  simp only[bi,jY,PV,G,H,e4,List.length_append,List.length_cons,List.length_nil]
 have P:=D1.putG (d':={ l with Zbv:=l.Zbv++[s] }) z0 6 ho 6 (by omega) ⟨some ⟨w,0,none⟩,o⟩ (by rw[N];exact Y) (by rw[h6];exact B)
  (by
    rcases y with e | e
    ·exact XK (XQ (by rw[h6];exact e.symm))
    ·exact XK (XK ⟨w,rfl,e⟩))
  (by
   intro j v;by_cases b:j=10+2*l.Zbv.length
   ·subst b;rw[G];have:bi { l with Zbv:=l.Zbv++[s] } d (10+2*l.Zbv.length)=aE s.Zbe:=by
     rw[show 10+2*l.Zbv.length=2*l.Zbv.length+10 by omega];simp[bi,inner,symsAt]
    rw[this];exact os
   ·by_cases c:j=11+2*l.Zbv.length
    ·subst c;rw[H];have:bi { l with Zbv:=l.Zbv++[s] } d (11+2*l.Zbv.length)=jd s.Zbp:=by
      rw[show 11+2*l.Zbv.length=(2*l.Zbv.length+1)+10 by omega];have q:(2*l.Zbv.length+1) % 2=1:=by omega
      have Z:(2*l.Zbv.length+1) / 2=l.Zbv.length:=(by omega);simp[bi,inner,wL,q,Z]
     rw[this];exact op
    ·have:bi { l with Zbv:=l.Zbv++[s] } d j=bi l d j:=by
      match j,v,b,c with
      | 0,_,_,_=>rfl
      | 1,_,_,_=>rfl
      | 2,_,_,_=>rfl
      | 3,_,_,_=>rfl
      | 4,_,_,_=>rfl
      | 5,_,_,_=>rfl
      | 6,v,_,_=>exact absurd rfl v
      | 7,_,_,_=>rfl
      | 8,_,_,_=>rfl
      | 9,_,_,_=>rfl
      | m+10,_,b,c =>
       have hm:m / 2≠l.Zbv.length:=(by omega);have e:(l.Zbv++[s])[m / 2]?=l.Zbv[m / 2]?:=by
        rcases Zao (m / 2) l.Zbv.length with L | L
        ·exact XP L
        ·rw[XO L,Yb L,Yb (by simp;omega)]
       simp only[bi,inner,symsAt,wL,e]
     rw[this];exact D1.ZbH j)
  (slice (some ⟨w,0,none⟩) ((jY l.Zbv S).n+1) o) (by omega) (by
   rw[el];have u:∀j,j<10->j≠6->gj d 6 (⟨some ⟨w,0,none⟩,o⟩:Hd) j=S j:=fun j v T=>by rw[cJ _ _ _ _ T];exact p j (by omega) (by omega)
   unfold da;rw[u 0 (by omega) (by omega),u 1 (by omega) (by omega),u 2 (by omega) (by omega),u 3 (by omega) (by omega),u 4 (by omega) (by omega),u 5 (by omega) (by omega),u 7 (by omega) (by omega),u 8 (by omega) (by omega),u 9 (by omega) (by omega),dS];simp[jY])
 exact⟨_,P.1,T1.trans P.2,fun j v T=>by rw[cJ _ _ _ _ T];exact p j (by omega) (by omega)⟩
theorem LP:∀u∈qn zt,u.oneCell'=true:=by
 intro u a;simp only[qn,List.mem_flatMap]at a;obtain⟨p,_,a⟩:=a;simp only[uQ,List.mem_cons,List.not_mem_nil,or_false]at a;rcases a with rfl | rfl | rfl | rfl <;> rfl
theorem Wu(a b:Hd):∀u∈PC y9 a b,u.oneCell'=true:=by
 intro u c;simp only[PC,List.mem_cons,List.not_mem_nil,or_false]at c;rcases c with rfl | rfl | rfl | rfl | rfl | rfl | rfl | rfl <;> rfl
theorem A6(s f:Xr)(l c:Int)(a:World)(h:a9 a n i d o w b)(ho:d.length=H)(hs:hZ w 100000000) :
  Calls prog 267 #[pointer (some ⟨n,H+6,none⟩),agg #[int i64 k,string s,slice (b 8).ao w.Zbe.length (b 8).cap,slice (b 9).ao w.Zbp.length (b 9).cap,string f,int i64 l,int i64 c,int i64 0]] a fun e w' =>
   e=returned (tuple #[])/\∃Y,a9 w' n i d o { w with Zbv:=w.Zbv++[⟨k,s,w.Zbe,w.Zbp,⟨f,l,c⟩,0⟩] } Y/\aw n a b w' Y/\∀j,j<10->j≠6->Y j=b j:=by
 obtain⟨i0,hi,a4,ar,a5⟩:=XV i9;obtain⟨i1,an,a2,aq,a3⟩:=XV Xd;obtain⟨i2,aS,aT,a0,a1⟩:=XV zb2;have bd:=hs.Zbe;have be:=hs.Zbp;have bc:=hs.Zbv;have m1:=fun a=>bY (P:=prog) a 61 9 i0 _ underlying61 hi a4 w.Zbe.length 1 ar (by rw[a5];omega) (by omega);have m2:=fun a=>bY (P:=prog) a 156 229 i1 _ underlying156 an a2 w.Zbp.length 4 aq (by rw[a3];omega) (by omega);obtain⟨E,C⟩:∃mc,mc=madeCells (string ⟨#[]⟩).cells (w.Zbe.length*1):=⟨_,rfl⟩
 obtain⟨N,D⟩:∃mc,mc=madeCells (agg #[string ⟨#[]⟩,string ⟨#[]⟩,int i64 0,int i64 0]).cells (w.Zbp.length*4):=⟨_,rfl⟩
 have z1:E.size=w.Zbe.length*1:=by rw[C,YJ]
 have z2:N.size=w.Zbp.length*4:=by rw[D,YJ]
 rw[<-C]at m1;rw[<-D]at m2;clear C D;obtain⟨bx,t⟩:∃bx:Array Value,bx=#[int i64 k,string s,slice (b 8).ao w.Zbe.length (b 8).cap,slice (b 9).ao w.Zbp.length (b 9).cap,string f,int i64 l,int i64 c,int i64 0]:=⟨_,rfl⟩
 obtain⟨O,z⟩:∃O,O=(a.alloc (.cells #[int i64 k,string s,slice (b 8).ao w.Zbe.length (b 8).cap,slice (b 9).ao w.Zbp.length (b 9).cap,string f,int i64 l,int i64 c,int i64 0] 158)).alloc (.cells E 9):=⟨_,rfl⟩
 have K2:aa [] a O:=by rw[z];exact(bH.alloc _).alloc _
 have D2:=h.Zbj K2;have Z2:O.heap.size=a.heap.size+2:=by rw[z];simp
 have B2:O.heap[a.heap.size]?=some (.cells bx 158):=by
  rw[z,t];exact(bH.alloc _).get (XD _ _) (by simp)
 have G2:O.heap[a.heap.size+1]?=some (.cells E 9):=by
  rw[z];have:=XD (a.alloc (.cells #[int i64 k,string s,slice (b 8).ao w.Zbe.length (b 8).cap,slice (b 9).ao w.Zbp.length (b 9).cap,string f,int i64 l,int i64 c,int i64 0] 158)) (.cells E 9);simpa using this
 have ac:Xq _:=z.symm;have ag:Xq ((prog.info? (aE w.Zbe).e).map (·.size)=some (aE w.Zbe).size):=cm (by simp[aE,hi,ar]);have ai:Xq ((prog.info? (jd w.Zbp).e).map (·.size)=some (jd w.Zbp).size):=cm (by simp[jd,an,aq]);clear z;go_enter func267,ntmps267;go_upto_region 2 with fail
 rw[ac.o];have b2:O.cell? ⟨a.heap.size,2,none⟩=some (slice (b 8).ao w.Zbe.length (b 8).cap):=by rw[ab B2,t];rfl
 clear ac m1;obtain⟨w3,al,R,T,M⟩:=tU (P:=prog) O 61 61 3 (a.heap.size+1) w.Zbe.length (b 8) (aE w.Zbe) E 9 underlying61 ag.o G2 (D2.ZbH 8) z1 (mw _);simp only[aE]at al R;have K3:aa [] a w3:=((K2.mono (S':=[a.heap.size+1]) (by simp)).trans T).mono (by simp);have B3:=T.get B2 (by simp);rw[Z2]at M;have b3:w3.cell? ⟨a.heap.size,3,none⟩=some (slice (b 9).ao w.Zbp.length (b 9).cap):=by rw[ab B3,t];rfl
 clear G2 B2 D2 T K2;obtain⟨Q,A⟩:∃Q,Q=w3.alloc (.cells N 229):=⟨_,rfl⟩
 have K4:aa [] a Q:=by rw[A];exact K3.alloc _
 have U:=dx A.symm;have D4:=h.Zbj K4;have B4:=U.get B3 (by simp);have S4:=U.get R (by simp);have G4:Q.heap[a.heap.size+2]?=some (.cells N 229):=by rw[A,<-M];exact XD _ _
 have ad:Xq _:=A.symm;have Z4:Q.heap.size=a.heap.size+3:=by rw[A];simp[M]
 clear A U;go_upto_region 4 with fail
 clear al b2;rw[ad.o];have b4:Q.cell? ⟨a.heap.size,3,none⟩=some (slice (b 9).ao w.Zbp.length (b 9).cap):=by rw[ab B4,t];rfl
 clear ad m2 b3;obtain⟨X,am,S,K,a6⟩:=tU (P:=prog) Q 156 156 3 (a.heap.size+2) w.Zbp.length (b 9) (jd w.Zbp) N 229 underlying156 ai.o G4 (D4.ZbH 9) z2 (LP _);simp only[jd]at am S;have K5:aa [] a X:=((K4.mono (S':=[a.heap.size+2]) (by simp)).trans K).mono (by simp);have W:=K.get B4 (by simp);have S5:=K.get S4 (by simp);rw[Z4]at a6;clear G4 B4 D4 K K4 S4;have av:X.cell? ⟨a.heap.size,2,none⟩=some (slice (b 8).ao w.Zbe.length (b 8).cap):=by rw[ab W,t];rfl
 have ax:X.cell? ⟨a.heap.size,3,none⟩=some (slice (b 9).ao w.Zbp.length (b 9).cap):=by rw[ab W,t];rfl
 have az:X.cell? ⟨a.heap.size,7,none⟩=some (int i64 0):=by rw[ab W,t];rfl
 have fx:=zcW W;obtain⟨F,B⟩:∃F,F=((X.setCell ⟨a.heap.size,2,none⟩ (slice (some ⟨a.heap.size+1,0,none⟩) w.Zbe.length w.Zbe.length)).setCell ⟨a.heap.size,3,none⟩ (slice (some ⟨a.heap.size+2,0,none⟩) w.Zbp.length w.Zbp.length)).setCell ⟨a.heap.size,7,none⟩ (int i64 0):=⟨_,rfl⟩
 have af:Xq _:=B.symm;have K8:aa [] a F:=by rw[B];exact((K5.sr1 (Xy _) _).sr1 (Xy _) _).sr1 (Xy _) _
 have V:aa [a.heap.size] X F:=by rw[B];exact(((aa.refl _ _).sl1 _).sl1 _).sl1 _
 have B8:F.heap[a.heap.size]?=some (.cells (PC ⟨k,s,w.Zbe,w.Zbp,⟨f,l,c⟩,0⟩ ⟨some ⟨a.heap.size+1,0,none⟩,w.Zbe.length⟩ ⟨some ⟨a.heap.size+2,0,none⟩,w.Zbp.length⟩).toArray 158):=by
  rw[B,ae (ae (ae W _ _) _ _),t];rfl
 have S8:=V.get S5 (by simp);have P8:=V.get S (by simp);clear B V S5 S W;go_upto_region 8 with fail
 rw[af.o];clear af am av ax az fx b4 K5 t R M B3 K3;have y:=fun j v (hv:(PC ⟨k,s,w.Zbe,w.Zbp,⟨f,l,c⟩,0⟩ ⟨some ⟨a.heap.size+1,0,none⟩,w.Zbe.length⟩ ⟨some ⟨a.heap.size+2,0,none⟩,w.Zbp.length⟩)[j]?=some v)=>(ab B8 j).trans (by simpa using hv);have y0:=y 0 _ rfl;have y1:=y 1 _ rfl;have y2:=y 2 _ rfl;have y3:=y 3 _ rfl;have y4:=y 4 _ rfl;have y5:=y 5 _ rfl;have y6:=y 6 _ rfl;have y7:=y 7 _ rfl;simp only at y0 y1 y2 y3 y4 y5 y6 y7;clear y;have D8:=h.Zbj K8;have q6:=D8.cellAt H ho 6 (by omega);simp only[da,List.getElem?_cons_succ,List.getElem?_cons_zero]at q6;have ba:=D8.lt;obtain⟨m,q⟩:∃m:List Value,m=PC ⟨k,s,w.Zbe,w.Zbp,⟨f,l,c⟩,0⟩ ⟨some ⟨a.heap.size+1,0,none⟩,w.Zbe.length⟩ ⟨some ⟨a.heap.size+2,0,none⟩,w.Zbp.length⟩:=⟨_,rfl⟩
 obtain⟨G,I⟩:∃G,G=(F.alloc (.cells #[int i64 k,string s,slice (some ⟨a.heap.size+1,0,none⟩) w.Zbe.length w.Zbe.length,slice (some ⟨a.heap.size+2,0,none⟩) w.Zbp.length w.Zbp.length,string f,int i64 l,int i64 c,int i64 0] 158)).drew:=⟨_,rfl⟩
 have K9:aa [] F G:=by rw[I];exact(bH.alloc _).drew
 have G9:G.heap[F.heap.size]?=some (.cells m.toArray 158):=by rw[I,q];exact XD _ _
 have O1:aD G ⟨some ⟨a.heap.size+1,0,none⟩,w.Zbe.length⟩ (aE w.Zbe):=aD.made (r:=aE w.Zbe) (K9.get S8 (by simp)) (IR _) (by simp only[aE];unfold maxLen;omega);have O2:aD G ⟨some ⟨a.heap.size+2,0,none⟩,w.Zbp.length⟩ (jd w.Zbp):=aD.made (r:=jd w.Zbp) (K9.get P8 (by simp)) (LO _) (by simp only[jd];unfold maxLen;omega);have D9:Xq (a9 G n i d o w b):=D8.Zbj K9;have s2:Xq (∀j u,m[j]?=some u->G.cell? ((⟨F.heap.size,0,none⟩:Addr).add j)=some u):=by
  intro j u hj;rw[bE,ab G9];simpa using hj
 have s3:Xq (∀u∈m,u.oneCell'=true):=by rw[q];exact Wu _ _ _
 have s4:Xq ((jY w.Zbv b).n+1<=maxLen):=by show _<=_;simp only[jY];unfold maxLen;omega
 have s5:Xq (((jY w.Zbv b).n+1)*112<=140737488355328):=by show _<=_;simp only[jY];omega
 have AF:=fun(g x:Nat) (w1:World) (L:aD w1 ⟨some ⟨g,0,none⟩,x⟩ ⟨(jY w.Zbv b).e,(jY w.Zbv b).size,(jY w.Zbv b).n+1,(jY w.Zbv b).xs++m⟩) J p=>h.addst (K8.trans K9) ho ⟨k,s,w.Zbe,w.Zbp,⟨f,l,c⟩,0⟩ ⟨some ⟨a.heap.size+1,0,none⟩,w.Zbe.length⟩ ⟨some ⟨a.heap.size+2,0,none⟩,w.Zbp.length⟩ (a.heap.size+1) (a.heap.size+2) rfl rfl (by omega) (by omega) (by omega) O1 O2 g x (w1:=w1) (by rw[<-q];exact L) J p;have Z:Xq _:=AF;have ap:Xq (m.length=1*(jY w.Zbv b).size):=cm (by rw[q];rfl);rw[I]at D9 s2 Z;clear AF O1 O2 G9 K9 I G q P8 S8 B8;go_region_law (refine bB rfl (.tmp 31) (.tmp 33) 74 rfl i2 (agg #[int i64 0,string ⟨#[]⟩,slice none 0 0,slice none 0 0,string ⟨#[]⟩,int i64 0,int i64 0,int i64 0]) 112 (b 6) (jY w.Zbv b) underlying74 aS aT a0 a1 rfl (ZD 7) (by simp[Act.eval] <;> rfl) (D9.o.ZbH 6) ⟨F.heap.size,0,none⟩ 1 1 m (by simp[Act.eval]) ap.o s2.o s3.o XR s4.o s5.o ?_;intro g x w1 L J p;obtain⟨k5,f5,HP⟩:=Z.o g x w1 L J (by simpa using p);clear L J p)
 all_goals go_wp2
 all_goals go_end0
 all_goals
  obtain⟨Y,P1,P2,P3⟩:=HP.o;exact⟨rfl,Y,P1,P2,P3⟩
def om(d:Db)(p:Pl):Db:={ d with Zbv:=d.Zbv++[⟨d.Zby,d.Zbz,d.Zbe,d.Zbp,p,0⟩] }
def jg(d:Db):Db:=if(d.Zby==2)=true/\1<d.Zbe.length then { d with Zbq:=d.Zbq++[d.Zbe.getD 1 ⟨#[]⟩] } else d
def aW(d:Db)(p:Pl):Db :=
 if(d.Zby==7)=true then { d with Zbg:=d.Zbg++d.Zbe }
 else if(d.Zby==8)=true then eK d d.Zbe.length
 else om (jg d) p
theorem LY(d:a9 a D g z4 zf l S)(i:z4.length=z0)(e:S 8=y8 8)(f:S 9=y8 9) :
  a.cell? ⟨D,z0+8,none⟩=some (int i64 l.Zby)/\a.cell? ⟨D,z0+9,none⟩=some (string l.Zbz)/\a.cell? ⟨D,z0+10,none⟩=some (slice (y8 8).ao l.Zbe.length (y8 8).cap)/\a.cell? ⟨D,z0+12,none⟩=some (slice (y8 9).ao l.Zbp.length (y8 9).cap):=by
 obtain⟨n,o,p,q,r,s,t,u,k,m,b,j,c⟩:=d.cells z0 i;rw[e]at b;rw[f]at c;exact⟨k,m,b,c⟩
theorem LU{f:Xr}{l c:Int}(T:aw D a S z6 y8)(B:a.heap[g]?=some (.cells #[string f,int i64 l,int i64 c] 36))(d:g≠D)(i:∀k,eG S k->k≠g) :
  z6.cell? ⟨g,0,none⟩=some (string f)/\z6.cell? ⟨g,1,none⟩=some (int i64 l)/\z6.cell? ⟨g,2,none⟩=some (int i64 c):=by
 have b:=T.1.get B (by rintro (e | e);exact d e;exact i _ e rfl);refine⟨?_,?_,?_⟩ <;> rw[ab b] <;> rfl
theorem Gh(c:Int)(g:World)(h:a9 g n i d o w b)(l:d.length=H)(hm:0<w.Zbe.length)(a:hZ w 10000000) :
  Calls prog 251 #[pointer (some ⟨n,H,none⟩),agg #[string x,int i64 k,int i64 c]] g fun e f=>e=returned (tuple #[])/\∃H',a9 f n i d o (aW w ⟨x,k,c⟩) H'/\aw n g b f H':=by
 obtain⟨W,R⟩:∃W,W=g.alloc (.cells #[string x,int i64 k,int i64 c] 36):=⟨_,rfl⟩
 have K:=dx R.symm;have D:=h.Zbj K;have Q:Xq _:=R.symm;have B:=dC R.symm;have t:g.heap.size≠n:=by have:=h.lt;omega
 have J:Xq (∀m,eG b m->m≠g.heap.size):=fun m X=>by have:=h.inlt X;omega
 have v:=(show Xq (hZ w 100000000) from⟨by have:=a.Zbm;omega,by have:=a.Zbg;omega,by have:=a.Zbh;omega,by have:=a.Zbn;omega,by have:=a.Zbq;omega,by have:=a.ZbA;omega,by have:=a.Zbv;omega,by have:=a.rbl;omega,by have:=a.Zbe;omega,by have:=a.Zbp;omega⟩);clear R;obtain⟨q0,q1,q2,q3,q4,q5,q6,q7,q8,q9,p,z,A⟩:=D.cells H l;clear q0 q1 q2 q3 q4 q5 q6 q7 z;have an:=a.Zbe;cases S:(w.Zby==7)
 ·cases Z:(w.Zby==8)
  ·by_cases M:(w.Zby==2)=true/\1<w.Zbe.length
   ·have q:Xq (aW w ⟨x,k,c⟩=om { w with Zbq:=w.Zbq++[w.Zbe.getD 1 ⟨#[]⟩] } ⟨x,k,c⟩):=(by show aW w ⟨x,k,c⟩=_;unfold aW jg;rw[S,Z,XA M];simp);obtain⟨N,u⟩:=M;have hx:w.Zbe.getD 1 ⟨#[]⟩=w.Zbe[1]:=(by rw[Xw,Xv u];rfl);rw[hx]at q;have y:aD W (b 8) (aE w.Zbe):=D.ZbH 8;rcases y.Zbu with ⟨_,h0,_⟩ | ⟨g8,ag,e8,-,al,-⟩
    ·have:w.Zbe.length=0:=h0;omega
    ·have c1:=y.cell e8 1 (string w.Zbe[1]) (pV w.Zbe 1 u);rw[e8]at p;have ap:=a.Zbq;clear y hx;generalize w.Zbe[1]=af at *;go_enter func251,ntmps251;(go_upto_region 1 with fail);rw[Q.o];(go_upto_region 3 with fail);go_region_with (go_at_call 266;refine(DV n i H d o w b af _ (by exact D.Zbj bH.drew) l (by omega)).mono ?_;rintro e O ⟨rfl,j,C,r⟩)
     all_goals
      have s:=J;have P:=r.1.get (by exact B) (by rintro (e | e);exact t e;exact s.o _ e rfl);have am:=ah B;have L:Xq (∀m,eG j m->m≠g.heap.size):=fun m X=>by
       rcases r.2 m X with V | V
       ·exact s.o m V
       ·rintro rfl;have h2:W.heap.size<=g.heap.size:=V;omega
      have U:Xq _:=(r.first bH.drew).first K;clear q8 q9 p A c1 r D B;obtain⟨q0,q1,q2,q3,q4,q5,q6,q7,q8,q9,p,z,A⟩:=C.cells H l;clear q0 q1 q2 q3 q4 q5 q6 q7 z;simp only at q8 q9 p A;have p0:O.cell? ⟨g.heap.size,0,none⟩=some (string x):=(by rw[ab P];rfl);have p1:O.cell? ⟨g.heap.size,1,none⟩=some (int i64 k):=(by rw[ab P];rfl);have p2:O.cell? ⟨g.heap.size,2,none⟩=some (int i64 c):=(by rw[ab P];rfl);have Y:=(show Xq (hZ { w with Zbq:=w.Zbq++[af] } 100000000) from⟨by have:=a.Zbm;simp only;omega,by have:=a.Zbg;simp only;omega,by have:=a.Zbh;simp only;omega,by have:=a.Zbn;simp only;omega,by simp;omega,by have:=a.ZbA;simp only;omega,by have:=a.Zbv;simp only;omega,by have:=a.rbl;simp only;omega,by have:=a.Zbe;simp only;omega,by have:=a.Zbp;simp only;omega⟩)
     all_goals go_upto_region 4 with fail
     all_goals go_region_held3 (fun f=>f.cell? ⟨n,H+8,none⟩=some (int i64 w.Zby)/\f.cell? ⟨n,H+9,none⟩=some (string w.Zbz)/\f.cell? ⟨n,H+10,none⟩=some (slice (j 8).ao w.Zbe.length (j 8).cap)/\f.cell? ⟨n,H+12,none⟩=some (slice (j 9).ao w.Zbp.length (j 9).cap)/\f.cell? ⟨g.heap.size,0,none⟩=some (string x)/\f.cell? ⟨g.heap.size,1,none⟩=some (int i64 k)/\f.cell? ⟨g.heap.size,2,none⟩=some (int i64 c)) (go_keep) (first | (go_at_call 267;refine(A6 n i H d o { w with Zbq:=w.Zbq++[af] } j w.Zby w.Zbz x k c _ (by exact C.Zbj bH.drew) l Y.o).mono ?_;rintro e w9 ⟨rfl,T,E,G,F⟩;obtain⟨r8,r9,ac,ad⟩:=LY E l (F 8 (by omega) (by omega)) (F 9 (by omega) (by omega));obtain⟨p0,p1,p2⟩:=LU G (by exact P) t L.o))
     all_goals go_wp2
     all_goals go_end0
     all_goals exact⟨rfl,T,by rw[q.o];exact E,aw.trans U.o (G.first bH.drew)⟩
   ·have q:Xq (aW w ⟨x,k,c⟩=om w ⟨x,k,c⟩):=(by show aW w ⟨x,k,c⟩=_;unfold aW jg;rw[S,Z,Xz M];simp);cases N:(w.Zby==2)
    rotate_left
    focus
     have u:¬1<w.Zbe.length:=fun hh=>M ⟨N,hh⟩
    all_goals
     clear M;go_enter func251,ntmps251;(go_upto_region 1 with fail);rw[Q.o];(go_upto_region 4 with fail);obtain⟨p0,p1,p2⟩:=zT B;go_region_held3 (fun f=>f.cell? ⟨n,H+8,none⟩=some (int i64 w.Zby)/\f.cell? ⟨n,H+9,none⟩=some (string w.Zbz)/\f.cell? ⟨n,H+10,none⟩=some (slice (b 8).ao w.Zbe.length (b 8).cap)/\f.cell? ⟨n,H+12,none⟩=some (slice (b 9).ao w.Zbp.length (b 9).cap)/\f.cell? ⟨g.heap.size,0,none⟩=some (string x)/\f.cell? ⟨g.heap.size,1,none⟩=some (int i64 k)/\f.cell? ⟨g.heap.size,2,none⟩=some (int i64 c)) (go_keep) (first | (go_at_call 267;refine(A6 n i H d o w b w.Zby w.Zbz x k c _ (by exact D.Zbj bH.drew) l v.o).mono ?_;rintro e w9 ⟨rfl,T,E,G,F⟩;obtain⟨r8,r9,ac,ad⟩:=LY E l (F 8 (by omega) (by omega)) (F 9 (by omega) (by omega));obtain⟨p0,p1,p2⟩:=LU G (by exact B) t J.o))
     all_goals go_wp2
     all_goals go_end0
     all_goals exact⟨rfl,T,by rw[q.o];exact E,(G.first bH.drew).first K⟩
  ·have q:Xq (aW w ⟨x,k,c⟩=eK w w.Zbe.length):=(by show aW w ⟨x,k,c⟩=_;unfold aW;rw[S,Z];simp);go_enter func251,ntmps251;(go_upto_region 1 with fail);rw[Q.o];go_wp2_with fail;go_region_with (go_at_call 265;refine(xh n i H d o w b _ (by exact D.Zbj bH.drew) l hm v.o).mono ?_;rintro e O ⟨rfl,j,C,r⟩)
   all_goals go_wp2
   all_goals go_end0
   all_goals exact⟨rfl,j,by rw[q.o];exact C,(r.first bH.drew).first K⟩
 ·have q:Xq (aW w ⟨x,k,c⟩={ w with Zbg:=w.Zbg++w.Zbe }):=by show aW w ⟨x,k,c⟩=_;unfold aW;rw[S];simp
  go_enter func251,ntmps251;go_upto_region 1 with fail
  rw[Q.o];go_wp2_with fail;go_region_with (go_at_call 264;refine(xg n i H d o w b _ (by exact D.Zbj bH.drew) l hm v.o).mono ?_;rintro e O ⟨rfl,j,C,r⟩)
  all_goals go_wp2
  all_goals go_end0
  all_goals exact⟨rfl,j,by rw[q.o];exact C,(r.first bH.drew).first K⟩
end Go.Proofs.YtpdholcaobgofaaGreat
