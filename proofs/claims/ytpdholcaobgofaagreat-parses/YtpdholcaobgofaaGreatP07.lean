import Derived.BigQuiet
import Derived.Test.YtpdholcaobgofaaGreatP06
namespace Go.Proofs.YtpdholcaobgofaaGreat
open Go.RowKit Tryz
open Value IntKind Ending
set_option maxHeartbeats 0
variable{n i y8:World}{z0 z5:Hd}{N:Xs}{z8:Xu}{y9:Xr}{f d z6:Nat}{D:List St}{x:Nat->Hd}{z7:List Bool}{y6:Nat->Prop}{g:List Value}{z2:Nat->eD}{y7:List Rw}(v:Nat)(S:Xs)(L:List Bool)(o:St)(zf M:Hd)(y:List St)(z3:Xs)(m:Xu)(zt:List Bool)(y5:Value)(H w:Nat)(b:List St)(a:Nat->Hd)(I:Hd)(l:Xs)(z4:Xr)(T:World)
def dB(w:World)(h:Hd)(l:Xs):Prop :=
 l=[]∨∃g off cur t,h.ao=some ⟨g,off,none⟩/\w.heap[g]?=some (.cells cur t)/\(∀j x,l[j]?=some x->cur[off+j]?=some (string x))/\l.length<=h.cap/\h.cap<=9223372036854775807
theorem aD.view(o:aD n z0 (aE N)):dB n z0 N:=by
 rcases o.Zbu with ⟨_,k,_⟩ | ⟨g,a,d,e,f,c,m,i⟩
 ·exact XQ (XY k)
 ·refine XK ⟨g,0,a,_,d,e,?_,f,by unfold maxLen at c;exact c⟩;intro j x l;have b:a.toList.take (N.length*1)=dc N:=i;have:(dc N)[j]?=some (string x):=by simp[dc,l]
  rw[<-b,ZH]at this;rw[Zf];simp at this;exact this.2
theorem dB.Zbw(v:dB n z0 N)(k:aa z8 n i)(f:∀x,z0.Zbx=some x->x∉z8):dB i z0 N:=by
 rcases v with v | ⟨g,b,a,t,c,d,e⟩
 ·exact XQ v
 ·exact XK ⟨g,b,a,t,c,k.get d (f g (by unfold Hd.Zbx;rw[c];rfl)),e⟩
theorem dB.Zbj(v:dB n z0 N)(k:aa [] n i):dB i z0 N:=v.Zbw k (by simp)
theorem ue{b:Xr}(h:y9=b):Ending.returned (string y9)=returned (string b):=by rw[h]
theorem Rj(s:dB T I l)(r:l.length<=1073741824) :
  Calls prog 217 #[slice I.ao l.length I.cap,string z4] T fun e u=>e=returned (bool (aN l z4))/\u=T:=by
 obtain⟨v,n⟩:=I;rcases s with rfl | ⟨g,d,p,t,j,q,f,x,y⟩
 ·clear r;go_enter func217,ntmps217;go_wp2;refine Zv 1 ?_;rw[ZT];go_wp2;go_ret;exact⟨rfl,rfl⟩
 ·simp only at j;subst j;go_enter func217,ntmps217;go_wp2
  go_loopg [5] l.length (fun g i wr=>∃k:Nat,k<=l.length/\g=l.length-k/\i=int i64 k/\Xq (aN l z4=aN (l.drop k) z4)/\wr=T)
  ·exact⟨0,by omega,by omega,rfl,rfl,rfl⟩
  obtain⟨k,A,z,rfl,b,rfl⟩:=hrel;by_cases a:k<l.length
  ·have w:wr.cell? ⟨g,d+k,none⟩=some (string l[k]):=(ab q (d+k)).trans (f k l[k] (Xv a));cases m:((l[k]).toList==z4.toList)
   ·have c:Xq (aN l z4=aN (l.drop (k+1)) z4):=GJ l z4 k a b.o m;clear b f;go_wp2;go_roundg (l.length-(k+1))
    ·exact⟨k+1,by omega,rfl,by go_num,c,rfl⟩
    omega
   ·have c:Xq (aN l z4=true):=Mv l z4 k a b.o m;clear b f;go_wp2;go_ret;exact⟨aH c.o.symm,rfl⟩
  ·have c:Xq (aN l z4=false):=GK l z4 k a b.o;clear b f;go_wp2;go_ret;exact⟨aH c.o.symm,rfl⟩
def aZ(s:St):Xr:=s.Zbe.getD 0 ⟨#[]⟩
def aB(s:St):Xr:=if(s.Zby==2)=true/\2<=s.Zbe.length then s.Zbe.getD 1 ⟨#[]⟩ else⟨#[]⟩
theorem fO(h:w<z3.length):z3.getD w ⟨#[]⟩=z3[w]:=by rw[Xw,Xv h];rfl
theorem rO(r:dB T M o.Zbe)(q:o.Zbe.length<=1073741824) :
  Calls prog 190 #[du o M I] T fun e s=>e=returned (string (aZ o))/\aa [] T s:=by
 unfold du;obtain⟨u,m⟩:=M;rcases r with f | ⟨g,c,n,t,j,k,l,w,x⟩
 ·have a:Xq (aZ o=⟨#[]⟩):=by show _=_;unfold aZ;rw[f];rfl
  rw[f];simp only[List.length_nil];clear q f;go_enter func190,ntmps190;go_wp2;go_ret;exact⟨ue a.o.symm,(aa.refl _ _).alloc _⟩
 ·simp only at j;subst j;by_cases d:o.Zbe.length=0
  ·have i:((o.Zbe.length:Int)==0)=true:=(by simp[d]);have a:Xq (aZ o=⟨#[]⟩):=cm (by unfold aZ;rw[XY d];rfl);clear d;go_enter func190,ntmps190;go_wp2;go_ret;exact⟨ue a.o.symm,(aa.refl _ _).alloc _⟩
  ·have i:((o.Zbe.length:Int)==0)=false:=X6.2 (by omega);have b:0<o.Zbe.length:=(by omega);have a:Xq (aZ o=o.Zbe[0]):=fO _ _ b;have v:T.cell? ⟨g,c,none⟩=some (string o.Zbe[0]):=(ab k c).trans (l 0 _ (Xv b));have p:=ah k;clear l d;go_enter func190,ntmps190;go_wp2;go_ret;exact⟨ue a.o.symm,(aa.refl _ _).alloc _⟩
theorem jD(q:dB T M o.Zbe)(x:o.Zbe.length<=1073741824) :
  Calls prog 188 #[du o M I] T fun e r=>e=returned (string (aB o))/\aa [] T r:=by
 unfold du;cases d:(o.Zby==2)
 ·have f:(o.Zby != 2)=true:=by simp[bne,d]
  have b:Xq (aB o=⟨#[]⟩):=cm (by unfold aB;rw[d];simp);go_enter func188,ntmps188;go_wp2;go_ret;exact⟨ue b.o.symm,(aa.refl _ _).alloc _⟩
 ·have f:(o.Zby != 2)=false:=by simp[bne,d]
  by_cases y:o.Zbe.length<2
  ·have b:Xq (aB o=⟨#[]⟩):=(by show _=_;unfold aB;rw[Xz (by omega)]);go_enter func188,ntmps188;go_wp2;go_ret;exact⟨ue b.o.symm,(aa.refl _ _).alloc _⟩
  ·have a:1<o.Zbe.length:=(by omega);obtain⟨s,l⟩:=M;rcases q with n | ⟨g,c,m,t,i,j,k,v,w⟩
   ·rw[n]at a;simp at a
   ·simp only at i;subst i;have b:Xq (aB o=o.Zbe[1]):=cm (by unfold aB;rw[XA ⟨d,by omega⟩];exact fO _ _ a);have u:T.cell? ⟨g,c+1,none⟩=some (string o.Zbe[1]):=(ab j (c+1)).trans (k 1 _ (Xv a));have p:=ah j;clear k;go_enter func188,ntmps188;go_wp2;go_ret;exact⟨ue b.o.symm,(aa.refl _ _).alloc _⟩
def rZ(s:St)(syms:Xs):Bool:=if(s.Zby==2)=true then aN syms (aB s) else(s.Zby==3)
theorem yZ(p:dB T zf o.Zbe)(i:dB T I l)(n:o.Zbe.length<=1073741824)(f:l.length<=1073741824) :
  Calls prog 187 #[du o zf M,slice I.ao l.length I.cap] T fun e b=>e=returned (bool (rZ o l))/\aa [] T b:=by
 have j:=fun(b:World) (g:dB b zf o.Zbe)=>jD o zf M b g n;have a:Xq _:=j;unfold du at a ⊢;clear j;cases m:(o.Zby==2)
 ·have c:Xq (rZ o l=(o.Zby==3)):=by show _=_;unfold rZ;rw[m];simp
  go_enter func187,ntmps187;go_wp2;go_ret;exact⟨aH (by rw[c.o]),(aa.refl _ _).alloc _⟩
 ·have c:Xq (rZ o l=aN l (aB o)):=by show _=_;unfold rZ;rw[m];simp
  go_enter func187,ntmps187;go_wp2_with fail;refine(a.o _ (by exact p.Zbj (bH.alloc _))).mono ?_;rintro e q ⟨rfl,d⟩;have k:=((aa.refl [] T).alloc _).trans d;go_wp2_with fail;refine(Rj I l _ _ (by exact i.Zbj k) f).mono ?_;rintro e r ⟨rfl,rfl⟩;go_wp2;go_ret;exact⟨aH (by rw[c.o]),k⟩
structure iV(l:List St):Prop where
 len:l.length<=10000
 pos:∀i (h:i<l.length),0<l[i].Zbe.length
 syms:∀i (h:i<l.length),l[i].Zbe.length<=10000
 prfs:∀i (h:i<l.length),l[i].Zbp.length<=10000
theorem aa.grown{b:Option Nat}(K:aa [] n i)(g:i.grownBy y8 b)(c:∀k,b=some k->n.heap.size<=k):aa [] n y8 :=
 ⟨g.os.trans K.os,g.tape.trans K.tape,g.output.trans K.output,XF K.size g.size,fun k a _=>(g.block k (XB a K.size) (fun e=>by have:=c k e.symm;omega)).trans (K.block k a (by simp))⟩
def Em(l:List St)(a n:Nat):Bool:=match l[n]? with | some s=>(s.Zby==3)&&iI l n a | none=>false
theorem zas(h:w<y.length):Em y H w=((y[w].Zby==3)&&iI y w H):=by
 unfold Em;rw[Xv h]
def fK(l:List St)(a k:Nat):Xs:=symsAt l a++((List.range k).filter (Em l a)).flatMap (symsAt l)
def iz(l:List St)(a:Nat):Xs:=fK l a l.length
theorem qR(h:w<y.length):symsAt y w=y[w].Zbe:=by
 unfold symsAt;rw[Xv h]
theorem yL:fK y w 0=symsAt y w:=by unfold fK;rw[List.range_zero];rw[List.filter_nil,List.flatMap_nil,Ya]
theorem Bu(h:Em y H w=true):fK y H (w+1)=fK y H w++symsAt y w:=by
 unfold fK;rw[YG,Yy];simp[h]
theorem yc(h:Em y H w=false):fK y H (w+1)=fK y H w:=by
 unfold fK;rw[YG,Yy];simp[h]
theorem Bt(k:Nat)(b:iV y)(a:w<y.length)(f:k<=y.length):(fK y w k).length<=10000+k*10000:=by
 induction k with
 | zero =>
  have:=b.syms w a;have e:=congrArg List.length (yL y w);have c:=congrArg List.length (qR y w a);omega
 | succ k d =>
  have:=d (by omega);cases h:Em y w k with
  | true =>
   have e:=congrArg List.length (Bu y w k h);have c:=congrArg List.length (qR y k (by omega));have:=b.syms k (by omega);rw[XC]at e;omega
  | false =>
   have e:=congrArg List.length (yc y w k h);omega
set_option maxRecDepth 100000
theorem Cq(h:dQ T v H b a)(J:w<b.length)(K:iV b) :
  Calls prog 185 #[pointer (some ⟨v,H,none⟩),int i64 w] T fun e w'=>∃l:Hd,e=returned (slice l.ao (iz b w).length l.cap)/\aD w' l (aE (iz b w))/\(∀k,l.Zbx=some k->T.heap.size<=k)/\aa [] T w':=by
 obtain⟨i0,hi,W,X,Y⟩:=XV i9;have ai:=K.len;go_enter func185,ntmps185;go_wp2_with fail;refine(bu v H w b a _ h J).mono ?_;rintro e w1 ⟨rfl,s⟩;have h1:=h.Zbj s;have O1:=h1.Zbv.syms w b[w] (Xv J);have hp:=K.pos w J;have hm:=K.syms w J;rcases O1.Zbu with ⟨_,h0,_⟩ | ⟨g1,af,e1,-⟩
 ·have:b[w].Zbe.length=0:=h0;omega
 ·unfold du;rw[e1];have f:Xq (∀j u,(dc b[w].Zbe)[j]?=some u->w1.cell? ((⟨g1,0,none⟩:Addr).add j)=some u):=fun j u hj=>by rw[bE];exact O1.cell e1 j u hj
  have ES:Xq (fK b w 0=b[w].Zbe):=cm (by rw[yL];exact qR b w J);have HO:Xq (aD w1 ⟨none,0⟩ (aE [])):=XE _ _ _ _;clear O1;go_wp2_with (at_builtin;refine aR _ rfl (.tmp 8) (.tmp 12) 61 rfl i0 (string ⟨#[]⟩) 16 ⟨none,0⟩ (aE []) underlying61 hi W X Y rfl XR rfl HO.o ⟨g1,0,none⟩ b[w].Zbe.length (a (10+2*w)).cap (dc b[w].Zbe) rfl ?c0 f.o (mw _) hp ?c3 ?c4 ?_)
  case c0=>simp[dc,aE]
  case c3=>simp only[aE,List.length_nil];unfold maxLen;omega
  case c4=>simp only[aE,List.length_nil];omega
  intro g N w2 F S m;rw[uh [] b[w].Zbe,ZJ,<-ES.o]at F;have Q:aa [] T w2:=s.grown S (by simp[Hd.Zbx]);have al:T.heap.size<=g:=by
   rcases m with e | e
   ·simp[Hd.Zbx]at e
   ·exact XF s.size e
  have q:Xq ((aE []).n+b[w].Zbe.length=(fK b w 0).length):=cm (by rw[ES.o];simp[aE]);rw[q.o];clear f HO S m h1 s e1 hp hm q ES;go_wp2
  go_loopg [5,6] b.length (fun gk sv i wr=>∃(k:Nat) (l:Hd),k<=b.length/\gk=b.length-k/\i=int i64 k/\sv=slice l.ao (fK b w k).length l.cap/\aD wr l (aE (fK b w k))/\(∀x,l.Zbx=some x->T.heap.size<=x)/\aa [] T wr)
  ·exact⟨0,⟨some ⟨g,0,none⟩,N⟩,by omega,by omega,rfl,rfl,F,by intro x G;simp[Hd.Zbx]at G;omega,Q⟩
  obtain⟨k,l,hk,hg,rfl,rfl,I,R,P⟩:=hrel;have z:=h.Zbj P;clear F Q;by_cases c:k<b.length
  ·have ap:=Bt b w k K J (by omega);have o:Xq _:=zas b w k c;have an:=K.syms k c;have ad:=K.pos k c;have A:=z.Zbv.syms k b[k] (Xv c);rcases A.Zbu with ⟨_,h0,_⟩ | ⟨B,ag,ek,-⟩
   ·have:b[k].Zbe.length=0:=h0;omega
   ·have SY:Xq (symsAt b k=b[k].Zbe):=qR b k c;cases U:(b[k].Zby==3)
    ·have t:Xq (fK b w (k+1)=fK b w k):=yc b w k (by rw[o.o,U];rfl);clear o A;go_wp2_with (first | (go_at_call 79;refine(fn v H b a _ (by exact z)).mono ?_;rintro e w3 ⟨rfl,rfl⟩) | (go_at_call 96;refine(bu v H k b a _ (by exact z) c).mono ?_;rintro e w3 ⟨rfl,p⟩;unfold du));go_roundg (b.length-(k+1))
     ·exact⟨k+1,l,by omega,rfl,by go_num,by rw[t.o],by rw[t.o];exact I.Zbo (fun x G=>(p.trans (bH.alloc _)).block x (I.lt G) (by simp)),R,(P.trans p).alloc _⟩
     omega
    ·go_wp2_with (first | (go_at_call 79;refine(fn v H b a _ (by exact z)).mono ?_;rintro e wc ⟨rfl,rfl⟩) | (go_at_call 96;refine(bu v H k b a _ (by exact z) c).mono ?_;rintro e w3 ⟨rfl,p⟩;unfold du));obtain⟨M,r⟩:∃M,M=w3.alloc (.cells #[int i64 b[k].Zby,string b[k].Zbz,slice (some ⟨B,0,none⟩) b[k].Zbe.length (a (10+2*k)).cap,slice (a (11+2*k)).ao b[k].Zbp.length (a (11+2*k)).cap,string b[k].ZbC.ZbD,int i64 b[k].ZbC.ZbE,int i64 b[k].ZbC.ZbF,int i64 b[k].til] 158):=⟨_,rfl⟩
     rw[<-r];have Z:aa [] wc M:=by rw[r];exact p.alloc _
     have B4:=dC r.symm;obtain⟨-,-,q2,-⟩:=yY B4;have E:=z.Zbj Z;have D:aD M l (aE (fK b w k)):=I.Zbo (fun x G=>Z.block x (I.lt G) (by simp));have L:=E.Zbv.syms k b[k] (Xv c);have C:=P.trans Z;have f:Xq (∀j u,(dc b[k].Zbe)[j]?=some u->M.cell? ((⟨B,0,none⟩:Addr).add j)=some u):=fun j u hj=>by rw[bE];exact L.cell ek j u hj
     clear r p Z B4 z I A L P;cases hh:iI b k w
     ·have t:Xq (fK b w (k+1)=fK b w k):=yc b w k (by rw[o.o,hh];simp);clear o;go_wp2_with (go_at_call 186;refine(i8 v H k w b a _ (by exact E) c).mono ?_;rintro e w5 ⟨rfl,rfl⟩);go_roundg (b.length-(k+1))
      ·exact⟨k+1,l,by omega,rfl,by go_num,by rw[t.o],by rw[t.o];exact D,R,C⟩
      omega
     ·have t:Xq (fK b w (k+1)=fK b w k++b[k].Zbe):=(by show _=_;rw[Bu b w k (by rw[o.o,U,hh];rfl),SY.o]);clear o SY;go_wp2_with (first | (go_at_call 186;refine(i8 v H k w b a _ (by exact E) c).mono ?_;rintro e w5 ⟨rfl,rfl⟩) | (at_builtin;refine aR _ rfl (.tmp 32) (.tmp 34) 61 rfl i0 (string ⟨#[]⟩) 16 l (aE (fK b w k)) underlying61 hi W X Y rfl XR rfl (by exact D) ⟨B,0,none⟩ b[k].Zbe.length (a (10+2*k)).cap (dc b[k].Zbe) rfl ?d0 f.o (mw _) ad ?d3 ?d4 ?_))
      case d0=>simp[dc,aE]
      case d3=>simp only[aE];unfold maxLen;omega
      case d4=>simp only[aE];omega
      intro g5 O w5 V y d;rw[uh (fK b w k) b[k].Zbe,<-t.o]at V;have ac:=C.grown y R;have am:T.heap.size<=g5:=by
       rcases d with e | e
       ·exact R g5 e
       ·exact XF C.size e
      have q:Xq ((aE (fK b w k)).n+b[k].Zbe.length=(fK b w (k+1)).length):=cm (by rw[t.o];simp[aE]);rw[q.o];clear f y d q2 D;go_wp2;go_roundg (b.length-(k+1))
      ·exact⟨k+1,⟨some ⟨g5,0,none⟩,O⟩,by omega,rfl,by go_num,rfl,V,by intro x G;simp[Hd.Zbx]at G;omega,ac⟩
      omega
  ·have e:k=b.length:=(by omega);subst e;go_wp2_with (go_at_call 79;refine(fn v H b a _ (by exact z)).mono ?_;rintro e w3 ⟨rfl,rfl⟩);go_ret;exact⟨l,rfl,I,R,P⟩
def og(l:List St)(syms:Xs)(a n:Nat):Bool:=match l[n]? with | some s=>iI l n a&&rZ s syms | none=>false
theorem Da(h:w<y.length):og y z3 H w=(iI y w H&&rZ y[w] z3):=by
 unfold og;rw[Xv h]
def eF(l:List St)(a k:Nat):Xu:=(List.range k).filter (og l (iz l a) a)
def aM(l:List St)(a:Nat):Xu:=eF l a l.length
theorem At(h:og y (iz y H) H w=true):eF y H (w+1)=eF y H w++[w]:=by
 unfold eF;rw[YG,Yy];simp[h]
theorem xD(h:og y (iz y H) H w=false):eF y H (w+1)=eF y H w:=by
 unfold eF;rw[YG,Yy];simp[h]
theorem rt:(eF y H w).length<=w:=by
 unfold eF;have:=YE (og y (iz y H) H) (List.range w);simpa using this
theorem Ls(a:iV y)(b:w<y.length):(iz y w).length<=1073741824:=by
 have c:=Bt y w y.length a b (Xy _);have d:=a.len;unfold iz;omega
theorem mb(h:dQ T v H b a)(ha:w<b.length)(M:iV b) :
  Calls prog 141 #[pointer (some ⟨v,H,none⟩),int i64 w] T fun e C=>∃g:Hd,e=returned (slice g.ao (aM b w).length g.cap)/\aD C g (bK (aM b w))/\(∀k,g.Zbx=some k->T.heap.size<=k)/\aa [] T C:=by
 obtain⟨i0,hi,V,W,X⟩:=XV C3;have ac:=M.len;have I:=Ls b w M ha;go_enter func141,ntmps141;go_wp2_with fail;refine(Cq v H w b a _ h ha M).mono ?_;rintro e Y ⟨U,rfl,R,ad,y⟩;go_wp2
 go_loopg [5,7] b.length (fun gk sv i wr=>∃(k:Nat) (g:Hd),k<=b.length/\gk=b.length-k/\i=int i64 k/\sv=slice g.ao (eF b w k).length g.cap/\aD wr g (bK (eF b w k))/\(∀x,g.Zbx=some x->Y.heap.size<=x)/\aa [] Y wr)
 ·exact⟨0,⟨none,0⟩,by omega,by omega,rfl,rfl,XE _ _ _ _,by intro x p;simp[Hd.Zbx]at p,aa.refl _ _⟩
 obtain⟨k,g,hk,hg,rfl,rfl,B,F,A⟩:=hrel;have m:=(h.Zbj y).Zbj A;have t:dB wr U (iz b w):=(R.view).Zbj A;have ag:=rt b w k;by_cases f:k<b.length
 ·have z:Xq _:=Da b (iz b w) w k f;have ai:=M.syms k f;have s:=(m.Zbv.syms k b[k] (Xv f)).view;cases hh:iI b k w
  ·have q:Xq (eF b w (k+1)=eF b w k):=xD b w k (by rw[z.o,hh];rfl);clear z s t;go_wp2_with (first | (go_at_call 79;refine(fn v H b a _ (by exact m)).mono ?_;rintro e wc ⟨rfl,rfl⟩) | (go_at_call 186;refine(i8 v H k w b a _ (by exact m) f).mono ?_;rintro e wd ⟨rfl,rfl⟩));go_roundg (b.length-(k+1))
   ·exact⟨k+1,g,by omega,rfl,by go_num,by rw[q.o],by rw[q.o];exact B,F,A⟩
   omega
  ·have Z:=fun(C:World) (v1:dB C (a (10+2*k)) b[k].Zbe) (v2:dB C U (iz b w))=>yZ b[k] (a (10+2*k)) (a (11+2*k)) U (iz b w) C v1 v2 (by omega) I;have o:Xq _:=Z;clear Z;cases L:rZ b[k] (iz b w)
   ·have q:Xq (eF b w (k+1)=eF b w k):=xD b w k (by rw[z.o,L];simp);rw[L]at o;clear z;go_wp2_with (first | (go_at_call 79;refine(fn v H b a _ (by exact m)).mono ?_;rintro e wc ⟨rfl,rfl⟩) | (go_at_call 186;refine(i8 v H k w b a _ (by exact m) f).mono ?_;rintro e wd ⟨rfl,rfl⟩) | (go_at_call 96;refine(bu v H k b a _ (by exact m) f).mono ?_;rintro e w3 ⟨rfl,c⟩) | (go_at_call 187;refine(o.o _ (by exact s.Zbj c) (by exact t.Zbj c)).mono ?_;rintro e w4 ⟨rfl,l⟩));go_roundg (b.length-(k+1))
    ·exact⟨k+1,g,by omega,rfl,by go_num,by rw[q.o],by rw[q.o];exact B.Zbo (fun x p=>(c.trans l).block x (B.lt p) (by simp)),F,(A.trans c).trans l⟩
    omega
   ·have q:Xq (eF b w (k+1)=eF b w k++[k]):=At b w k (by rw[z.o,hh,L];rfl);rw[L]at o;clear z;go_wp2_with (first | (go_at_call 79;refine(fn v H b a _ (by exact m)).mono ?_;rintro e wc ⟨rfl,rfl⟩) | (go_at_call 186;refine(i8 v H k w b a _ (by exact m) f).mono ?_;rintro e wd ⟨rfl,rfl⟩) | (go_at_call 96;refine(bu v H k b a _ (by exact m) f).mono ?_;rintro e w3 ⟨rfl,c⟩) | (go_at_call 187;refine(o.o _ (by exact s.Zbj c) (by exact t.Zbj c)).mono ?_;rintro e w4 ⟨rfl,l⟩;have G:=B.Zbo (fun x p=>((c.trans l).alloc (.cells #[int i64 k] 3)).block x (B.lt p) (by simp))) | (at_builtin;refine aR _ rfl (.tmp 28) (.tmp 30) 25 rfl i0 (int i64 0) 8 g (bK (eF b w k)) underlying25 hi V W X rfl XR rfl (by exact G) ⟨_,0,none⟩ 1 1 [int i64 k] rfl rfl ?d1 ?d2 XR ?d3 ?d4 ?_))
    case d1=>intro j u K;match j,K with | 0,K=>simp at K;subst K;simp[Addr.add]
    case d2=>intro u hu;simp at hu;subst hu;rfl
    case d3=>simp only[bK];unfold maxLen;omega
    case d4=>simp only[bK];omega
    intro N D w5 J r d;rw[oQ (eF b w k) k,<-q.o]at J;have E:=((A.trans c).trans l).alloc (.cells #[int i64 k] 3);have Q:=E.grown r F;have af:Y.heap.size<=N:=by
     rcases d with e | e
     ·exact F N e
     ·have:=E.size;simp at e this;omega
    have O:Xq ((bK (eF b w k)).n+1=(eF b w (k+1)).length):=cm (by rw[q.o];simp[bK]);rw[O.o];clear r d G;go_wp2;go_roundg (b.length-(k+1))
    ·exact⟨k+1,⟨some ⟨N,0,none⟩,D⟩,by omega,rfl,by go_num,rfl,J,by intro x p;simp[Hd.Zbx]at p;omega,Q⟩
    omega
 ·have e:k=b.length:=by omega
  subst e;have P:=y.trans A;have S:=y.size;go_wp2_with (go_at_call 79;refine(fn v H b a _ (by exact m)).mono ?_;rintro e w3 ⟨rfl,rfl⟩);go_ret;exact⟨g,rfl,B,fun x p=>XF S (F x p),P⟩
theorem Xb:(prog.info? 25).map (fun i=>(i.zero,i.size,i.bytes))=some (some (slice none 0 0),1,24):=by kernel_rfl
theorem EK(h:w<H):(madeCells #[y5] H)[w]?=some y5:=by
 simp[madeCells,h,Nat.mod_one]
def xE(l:List St)(n:Nat):Bool:=match l[n]? with | some s=>sU s.Zby | none=>false
theorem My(h:w<y.length):xE y w=sU y[w].Zby:=by
 unfold xE;rw[Xv h]
def nL(l:List St)(k n:Nat):Xu:=if n<k/\xE l n=true then aM l n else []
structure ji(w:World)(g:Nat)(l:List St)(k:Nat)(K:Nat->Hd):Prop where
 arr:∃arr,w.heap[g]?=some (.cells arr 25)/\arr.size=l.length/\∀n,n<l.length->arr[n]?=some (slice (K n).ao (nL l k n).length (K n).cap)
 ZbH:∀n,n<l.length->aD w (K n) (bK (nL l k n))
 off:∀n,(K n).Zbx≠some g
theorem ji.Zbw(h:ji n f D d x)(q:aa z8 n i)(o:f∉z8)(m:∀a b,(x a).Zbx=some b->b∉z8):ji i f D d x:=by
 obtain⟨c,j,k,l⟩:=h.arr;exact⟨⟨c,q.get j o,k,l⟩,fun a e=>(h.ZbH a e).Zbo (fun b g=>q.block b ((h.ZbH a e).lt g) (m a b g)),h.off⟩
theorem ji.Zbj(h:ji n f D d x)(q:aa [] n i):ji i f D d x:=h.Zbw q (by simp) (by simp)
theorem ji.cell(h:ji n f D d x)(a:Nat)(g:a<D.length):n.cell? ⟨f,a,none⟩=some (slice (x a).ao (nL D d a).length (x a).cap):=by
 obtain⟨b,c,i,e⟩:=h.arr;rw[ab c];exact e a g
theorem ji.free(h:ji n f D d x)(a:Nat):n.frozen? ⟨f,a,none⟩=false:=by
 obtain⟨b,c,e,g⟩:=h.arr;exact zcW c a
theorem ji.lt{k:Nat}(h:ji n f D k x):f<n.heap.size:=by
 obtain⟨a,b,c,d⟩:=h.arr;exact ah b
theorem ji.skip(h:ji n f D d x)(g:xE D d=false):ji n f D (d+1) x:=by
 have e:∀a,nL D (d+1) a=nL D d a:=by
  intro a;unfold nL;by_cases i:a=d
  ·subst i;rw[Xz (by rw[g];simp),Xz (by rw[g];simp)]
  ·have:(a<d+1/\xE D a=true) ↔ (a<d/\xE D a=true):=and_congr_left (fun _=>by omega);simp only[this]
 obtain⟨b,j,k,l⟩:=h.arr;exact⟨⟨b,j,k,fun a c=>by rw[e];exact l a c⟩,fun a c=>by rw[e];exact h.ZbH a c,h.off⟩
theorem ji.store{k:Nat}(h:ji n f D k x)(r:xE D k=true)(s:k<D.length)(c:Hd)(o:aD n c (bK (aM D k)))(l:c.Zbx≠some f) :
  ji (n.setCell ⟨f,k,none⟩ (slice c.ao (aM D k).length c.cap)) f D (k+1) (gj x k c):=by
 have e:∀a,a≠k->nL D (k+1) a=nL D k a:=by
  intro a b;unfold nL;have:(a<k+1/\xE D a=true) ↔ (a<k/\xE D a=true):=and_congr_left (fun _=>by omega);simp only[this]
 have i:nL D (k+1) k=aM D k:=by unfold nL;rw[XA ⟨by omega,r⟩]
 obtain⟨m,p,j,q⟩:=h.arr;refine⟨⟨_,ae p _ _,by simpa using j,?_⟩,?_,?_⟩
 ·intro a d;by_cases b:a=k
  ·subst b;rw[dS,i];simp[j,d]
  ·rw[cJ _ _ _ _ b,e a b];rw[Zav (by omega)];exact q a d
 ·intro a d;by_cases b:a=k
  ·subst b;rw[dS,i];exact o.Zbo (fun t g=>XN _ _ _ _ (by rintro rfl;exact l g))
  ·rw[cJ _ _ _ _ b,e a b];exact(h.ZbH a d).Zbo (fun t g=>XN _ _ _ _ (by rintro rfl;exact h.off a g))
 ·intro a;by_cases b:a=k
  ·subst b;rw[dS];exact l
  ·rw[cJ _ _ _ _ b];exact h.off a
theorem vS(h:dQ T H w b a)(Q:iV b) :
  Calls prog 112 #[pointer (some ⟨H,w,none⟩)] T fun e R=>∃(g:Nat) (K:Nat->Hd),e=returned (slice (some ⟨g,0,none⟩) b.length b.length)/\ji R g b b.length K/\T.heap.size<=g/\(∀n x,(K n).Zbx=some x->T.heap.size<=x)/\aa [] T R:=by
 obtain⟨W,U,G,I,J⟩:=XV Xb;have N:=Q.len;have O:=fun T=>bY (P:=prog) T 181 25 W _ underlying181 U G b.length 1 I (by rw[J];omega) (by omega);obtain⟨v,l⟩:∃v,v=madeCells (slice none 0 0).cells (b.length*1):=⟨_,rfl⟩
 rw[<-l]at O;have L:Xq (ji (T.alloc (.cells v 25)) T.heap.size b 0 pg):=by
  refine⟨⟨v,XD _ _,by rw[l,YJ];omega,?_⟩,?_,fun n e=>by simp[pg,Hd.Zbx]at e⟩
  ·intro n V;have e:nL b 0 n=[]:=(by unfold nL;rw[Xz (by omega)]);rw[e,l];exact EK _ _ _ (by omega)
  ·intro n V;have e:nL b 0 n=[]:=(by unfold nL;rw[Xz (by omega)]);rw[e];exact XE _ _ _ _
 clear l;go_enter func112,ntmps112;go_wp2_with (go_at_call 79;refine(fn H w b a _ (by exact h)).mono ?_;rintro e wc ⟨rfl,F⟩;rw[F])
 go_loopg [4] b.length (fun gk i wr=>∃(k:Nat) (K:Nat->Hd),k<=b.length/\gk=b.length-k/\i=int i64 k/\ji wr T.heap.size b k K/\(∀n x,(K n).Zbx=some x->T.heap.size<=x)/\aa [] T wr)
 ·exact⟨0,pg,by omega,by omega,rfl,L.o,fun n x p=>by simp[pg,Hd.Zbx]at p,(aa.refl _ _).alloc _⟩
 obtain⟨k,K,hk,hg,rfl,s,C,t⟩:=hrel;have E:=h.Zbj t;clear L O;by_cases d:k<b.length
 ·have y:Xq _:=My b k d;cases M:sU b[k].Zby
  ·have A:Xq (ji wr T.heap.size b (k+1) K):=s.skip (by rw[y.o,M]);clear y;go_wp2_with (first | (go_at_call 96;refine(bu H w k b a _ (by exact E) d).mono ?_;rintro e X ⟨rfl,f⟩;unfold du) | (go_at_call 159;refine(eW b[k].Zby _ _ _ _ _ _ _ _).mono ?_;rintro e Y ⟨rfl,j⟩));go_roundg (b.length-(k+1))
   ·exact⟨k+1,K,by omega,rfl,by go_num,(A.o.Zbj f).Zbj j,C,(t.trans f).trans j⟩
   omega
  ·go_wp2_with (first | (go_at_call 96;refine(bu H w k b a _ (by exact E) d).mono ?_;rintro e X ⟨rfl,f⟩;unfold du) | (go_at_call 159;refine(eW b[k].Zby _ _ _ _ _ _ _ _).mono ?_;rintro e Y ⟨rfl,j⟩));have c:=f.trans j;refine(mb H w k b a _ (E.Zbj c) d Q).mono ?_;rintro e w5 ⟨u,rfl,q,o,r⟩;have m:=(s.Zbj c).Zbj r;have S:=(s.Zbj c).lt;have D:u.Zbx≠some T.heap.size:=fun e=>by have:=o _ e;omega
   have A:Xq _:=(m.store (by rw[y.o,M]) d u q D);have B:=(t.trans c).trans r;have z:Xq (∀n x,(gj K k u n).Zbx=some x->T.heap.size<=x):=by
    intro n x p;by_cases e:n=k
    ·subst e;rw[dS]at p;have:=o x p;omega
    ·rw[cJ _ _ _ _ e]at p;exact C n x p
   have Z:=m.cell k d;have hf:=m.free;clear o q;go_wp2;go_roundg (b.length-(k+1))
   ·exact⟨k+1,gj K k u,by omega,rfl,by go_num,A.o,z.o,B.sr1 (Xy _) _⟩
   omega
 ·have e:k=b.length:=by omega
  subst e;go_wp2;go_ret;exact⟨T.heap.size,K,rfl,s,Xy _,C,t⟩
def bZ(vs:Xs)(x:Xr):Option Nat:=(List.range vs.length).find? (fun i=>(vs.getD i ⟨#[]⟩).toList==x.toList)
def vV(l:List Bool):List Value:=l.map bool
def tE(l:List Bool):eD:=⟨4,1,l.length,vV l⟩
structure mA(w:World)(tb:Nat)(vs:Xs)(ms:List Bool)(hv hm:Hd):Prop where
 Zbx:w.heap[tb]?=some (.cells #[slice hv.ao vs.length hv.cap,slice hm.ao ms.length hm.cap] 327)
 vars:aD w hv (aE vs)
 marks:aD w hm (tE ms)
 o1:hv.Zbx≠some tb
 o2:hm.Zbx≠some tb
 o3:hv.Zbx=none∨hv.Zbx≠hm.Zbx
theorem mA.cells(h:mA n f N z7 z0 z5):n.cell? ⟨f,0,none⟩=some (slice z0.ao N.length z0.cap)/\n.cell? ⟨f,1,none⟩=some (slice z5.ao z7.length z5.cap):=by
 refine⟨?_,?_⟩ <;> (rw[ab h.Zbx];rfl)
theorem mA.lt(h:mA n f N z7 z0 z5):f<n.heap.size:=ah h.Zbx
theorem mA.Zbw(h:mA n f N z7 z0 z5)(k:aa z8 n i)(c:f∉z8)(b:∀x,z0.Zbx=some x∨z5.Zbx=some x->x∉z8):mA i f N z7 z0 z5 :=
 ⟨k.get h.Zbx c,h.vars.Zbo (fun x a=>k.block x (h.vars.lt a) (b x (XQ a))),h.marks.Zbo (fun x a=>k.block x (h.marks.lt a) (b x (XK a))),h.o1,h.o2,h.o3⟩
theorem mA.Zbj(h:mA n f N z7 z0 z5)(k:aa [] n i):mA i f N z7 z0 z5:=h.Zbw k (by simp) (by simp)
set_option maxRecDepth 512
theorem wI(h:mA T v S L M I)(z:S.length<=1073741824) :
  Calls prog 259 #[pointer (some ⟨v,0,none⟩),string z4] T fun e r=>e=returned (int i64 (iu (bZ S z4)))/\r=T:=by
 obtain⟨n,s⟩:=h.cells;go_enter func259,ntmps259;go_wp2
 go_loopg [5] S.length (fun g i wr=>∃k:Nat,k<=S.length/\g=S.length-k/\i=int i64 k/\Xq (∀i,i<k->((S.getD i ⟨#[]⟩).toList==z4.toList)=false)/\wr=T)
 ·exact⟨0,by omega,by omega,rfl,fun i l=>by omega,rfl⟩
 obtain⟨k,x,w,rfl,a,rfl⟩:=hrel;by_cases b:k<S.length
 ·rcases h.vars.Zbu with ⟨_,q,_⟩ | ⟨g,p,f,-,u,-⟩
  ·have:S.length=0:=q;omega
  ·have t:=h.vars.cell f k (string S[k]) (pV S k b);rw[f]at n;have c:Xq _:=fO S k b;generalize S[k]=y at *;cases j:(y.toList==z4.toList)
   ·have m:Xq (∀i,i<k+1->((S.getD i ⟨#[]⟩).toList==z4.toList)=false):=by
     intro i l;by_cases e:i=k
     ·subst e;rw[c.o];exact j
     ·exact a.o i (by omega)
    clear c h;go_wp2;go_roundg (S.length-(k+1))
    ·exact⟨k+1,by omega,rfl,by go_num,m,rfl⟩
    omega
   ·have d:Xq (bZ S z4=some k):=jP b (by rw[c.o];exact j) a.o;clear c h;go_wp2;go_ret;exact⟨au (by rw[d.o];rfl),rfl⟩
 ·have d:Xq (bZ S z4=none):=jz (fun i l=>a.o i (by omega));clear h;go_wp2;go_ret;exact⟨au (by rw[d.o];rfl),rfl⟩
def bR(vs ws:Xs):Xu:=ws.filterMap (bZ vs)
theorem AT(h:H<z3.length)(a:bZ S z3[H]=some w):bR S (z3.take (H+1))=bR S (z3.take H)++[w]:=by
 unfold bR;rw[nt z3 H h,Zs];simp[a]
theorem AS(h:w<z3.length)(a:bZ S z3[w]=none):bR S (z3.take (w+1))=bR S (z3.take w):=by
 unfold bR;rw[nt z3 w h,Zs];simp[a]
theorem uK:(bR z3 l).length<=l.length:=ZP _ _
set_option maxRecDepth 100000
theorem Cm(h:mA T v S L zf M)(hl:S.length<=1073741824)(N:dB T I l)(P:l.length<=1000000) :
  Calls prog 237 #[pointer (some ⟨v,0,none⟩),slice I.ao l.length I.cap] T fun e w'=>∃c:Hd,e=returned (slice c.ao (bR S l).length c.cap)/\aD w' c (bK (bR S l))/\(∀x,c.Zbx=some x->T.heap.size<=x)/\aa [] T w':=by
 obtain⟨i0,hi,Q,R,U⟩:=XV C3;obtain⟨ao,ad⟩:=I;rcases N with rfl | ⟨g,E,af,t,Y,e2,Z,e4,e5⟩
 ·clear P;go_enter func237,ntmps237;go_wp2;refine Zv 1 ?_;rw[ZT];go_wp2;go_ret;exact⟨⟨none,0⟩,rfl,XE _ _ _ _,by intro x r;simp[Hd.Zbx]at r,aa.refl _ _⟩
 simp only at Y;subst Y;go_enter func237,ntmps237;go_wp2
 go_loopg [5,6] l.length (fun gk sv i wr=>∃(k:Nat) (c:Hd),k<=l.length/\gk=l.length-k/\i=int i64 k/\sv=slice c.ao (bR S (l.take k)).length c.cap/\aD wr c (bK (bR S (l.take k)))/\(∀x,c.Zbx=some x->T.heap.size<=x)/\aa [] T wr)
 ·exact⟨0,⟨none,0⟩,by omega,by omega,rfl,rfl,XE _ _ _ _,by intro x r;simp[Hd.Zbx]at r,aa.refl _ _⟩
 obtain⟨k,c,hk,hg,rfl,rfl,B,F,z⟩:=hrel;have hr:=h.Zbj z;have ai:=uK S (l.take k);have ac:(l.take k).length<=k:=by simp;omega
 by_cases q:k<l.length
 ·have c2:wr.cell? ⟨g,E+k,none⟩=some (string l[k]):=(ab (z.get e2 (by simp)) (E+k)).trans (Z k l[k] (Xv q))
  ·skip
   have X:=fun p=>AT S l k p q;have W:=AS S l k q;have m:Xq _:=X;have f:Xq _:=W;have V:=wI v S L zf M l[k] wr hr hl;have b:Xq _:=V;clear X W V Z;generalize l[k]=y at *;rcases hp:bZ S y with _ | p
   ·have s:Xq _:=f.o hp;rw[hp]at b;simp only[iu]at b;clear m f;go_wp2_with (go_at_call 259;refine Xx b.o ?_;rintro e w3 ⟨rfl,rfl⟩);go_roundg (l.length-(k+1))
    ·exact⟨k+1,c,by omega,rfl,by go_num,by rw[s.o],by rw[s.o];exact B,F,z⟩
    omega
   ·have s:Xq _:=m.o p hp;rw[hp]at b;simp only[iu]at b;have C:=B.Zbo (fun x r=>((aa.refl [] wr).alloc (.cells #[int i64 p] 3)).block x (B.lt r) (by simp));clear m f;go_wp2_with (first | (go_at_call 259;refine Xx b.o ?_;rintro e w3 ⟨rfl,O⟩;rw[O]) | (at_builtin;refine aR _ rfl (.tmp 22) (.tmp 24) 25 rfl i0 (int i64 0) 8 c (bK (bR S (l.take k))) underlying25 hi Q R U rfl XR rfl (by exact C) ⟨_,0,none⟩ 1 1 [int i64 p] rfl rfl ?d1 ?d2 XR ?d3 ?d4 ?_))
    case d1=>intro j u G;match j,G with | 0,G=>simp at G;subst G;simp[Addr.add]
    case d2=>intro u hu;simp at hu;subst hu;rfl
    case d3=>simp only[bK];unfold maxLen;omega
    case d4=>simp only[bK];omega
    intro H w w5 D d a;rw[oQ (bR S (l.take k)) p,<-s.o]at D;have A:=z.alloc (.cells #[int i64 p] 3);have K:=A.grown d F;have ag:T.heap.size<=H:=by
     rcases a with e | e
     ·exact F H e
     ·have:=A.size;simp at e this;omega
    have J:Xq ((bK (bR S (l.take k))).n+1=(bR S (l.take (k+1))).length):=cm (by rw[s.o];simp[bK]);rw[J.o];clear d a C;go_wp2;go_roundg (l.length-(k+1))
    ·exact⟨k+1,⟨some ⟨H,0,none⟩,w⟩,by omega,rfl,by go_num,rfl,D,by intro x r;simp[Hd.Zbx]at r;omega,K⟩
    omega
 ·have e:k=l.length:=by omega
  subst e;rw[Yl]at B ⊢;go_wp2;go_ret;exact⟨c,rfl,B,F,z⟩
def me(side mi:Nat)(mem:Xu)(ms:List Bool):List Bool:=mem.foldl (fun ms mj=>ms.set (mi*side+mj) true) ms
def nO(side:Nat)(mem:Xu)(ms:List Bool):List Bool:=mem.foldl (fun ms mi=>me side mi mem ms) ms
def lh(side:Nat)(mem:Xu)(ms:List Bool)(i j:Nat):List Bool:=me side (mem.getD i 0) (mem.take j) ((mem.take i).foldl (fun ms mi=>me side mi mem ms) ms)
theorem s9(b:Xu)(c:List Bool):(me H w b c).length=c.length:=by
 unfold me
 induction b generalizing c with
 | nil=>rfl
 | cons a r d=>rw[ZZ,d];simp
theorem wE(r:Xu)(b:List Bool):(r.foldl (fun b d=>me v d m b) b).length=b.length:=by
 induction r generalizing b with
 | nil=>rfl
 | cons a r c=>rw[ZZ,c,s9]
theorem lI:(lh v m zt H w).length=zt.length:=by
 unfold lh;rw[s9,wE]
theorem G7(a:w<m.length):lh v m zt H (w+1)=(lh v m zt H w).set (m.getD H 0*v+m[w]) true:=by
 unfold lh me;rw[nt m w a,ZA];rfl
theorem Kl(a:w<m.length):lh v m zt w m.length=lh v m zt (w+1) 0:=by
 have e:m.getD w 0=m[w]:=by rw[Xw,Xv a];rfl
 unfold lh;rw[Yl,nt m w a,ZA,e];rfl
theorem Kk:lh v m zt m.length 0=nO v m zt:=by
 unfold lh nO;rw[Yl];rfl
theorem CL:(vV zt).length=zt.length*1:=by simp[vV]
theorem mA.mark(h:mA n f N z7 z0 z5)(d:Nat)(e:z5.ao=some ⟨d,0,none⟩)(i:Nat)(t:i<z7.length) :
  mA (n.setCell ⟨d,i,none⟩ (bool true)) f N (z7.set i true) z0 z5:=by
 have l:z5.Zbx=some d:=by unfold Hd.Zbx;rw[e];rfl
 refine⟨?_,?_,?_,h.o1,h.o2,h.o3⟩
 ·rw[XN _ _ _ _ (by rintro rfl;exact h.o2 l),h.Zbx];simp
 ·refine h.vars.Zbo (fun x k=>XN _ _ _ _ ?_);rintro rfl;rcases h.o3 with a | a
  ·rw[a]at k;cases k
  ·exact a (k.trans l.symm)
 ·rcases h.marks.Zbu with ⟨_,s,_⟩ | ⟨g,c,b,m,o,p,q,r⟩
  ·have:z7.length=0:=s;omega
  ·have:g=d:=(by rw[e]at b;injection b with b;injection b with b;exact b.symm);subst this;refine⟨by simp only[tE];rw[CL],XK ⟨g,z5.cap,c.setIfInBounds i (bool true),?_,XX _,ae m _ _,?_,p,?_,?_⟩⟩
   ·simp[tE,e]
   ·simpa [tE] using o
   ·simpa [tE] using q
   ·have j:c.toList.take (z7.length*1)=vV z7:=r;simp only[tE,List.length_set,Array.toList_setIfInBounds,List.take_set,j];simp[vV,List.map_set]
theorem mh(h:w<m.length):(eR m)[w]?=some (int i64 m[w]):=by simp[eR,h]
theorem GZ(a:Xu)(w:World)(h:mA w v S L zf M)(R:L.length=S.length*S.length)(U:S.length<=10000)(F:aD w I (bK a))(T:a.length<=1000000)(n:∀i (hi:i<a.length),a[i]<S.length)(A:∀x,I.Zbx=some x->M.Zbx≠some x) :
  Calls prog 236 #[pointer (some ⟨v,0,none⟩),slice I.ao a.length I.cap] w fun e w'=>e=returned (tuple #[])/\mA w' v S (nO S.length a L) zf M/\fB (fun k=>M.Zbx=some k) w w':=by
 obtain⟨ao,f⟩:=I;rcases F.Zbu with ⟨e0,D,_⟩ | ⟨g,ad,Y,e2,Z,J,-⟩
 ·have z:a.length=0:=D;have Q:a=[]:=XY z;subst Q;clear F D z e0 T n A;go_enter func236,ntmps236;go_wp2;refine Zv 1 ?_;rw[ZT];go_wp2;go_end0;exact⟨rfl,h,fB.refl _ _⟩
 simp only at Y Z J;have ag:a.length<=f:=Z;have af:f<=9223372036854775807:=by unfold maxLen at J;exact J
 subst Y;go_enter func236,ntmps236;go_wp2
 go_loopg [4] a.length (fun gk i wr=>∃k:Nat,k<=a.length/\gk=a.length-k/\i=int i64 k/\mA wr v S (lh S.length a L k 0) zf M/\fB (fun k=>M.Zbx=some k) w wr)
 ·exact⟨0,by omega,by omega,rfl,h,fB.refl _ _⟩
 obtain⟨k,hk,hg,rfl,E,O⟩:=hrel;by_cases d:k<a.length
 ·have HR:Xq _:=Kl S.length a L k d;go_wp2_with fail
  go_loopg [5] a.length (fun K i2 B=>∃j:Nat,j<=a.length/\K=a.length-j/\i2=int i64 j/\mA B v S (lh S.length a L k j) zf M/\fB (fun k=>M.Zbx=some k) w B)
  ·exact⟨0,by omega,by omega,rfl,E,O⟩
  obtain⟨j,hj,al,rfl,b,l⟩:=hrel;clear E O;by_cases p:j<a.length
  ·have V:=n k d;have an:=n j p;have m:aD wr ⟨some ⟨g,0,none⟩,f⟩ (bK a):=F.Zbo (fun x G=>l.block x (F.lt G) (fun e=>A x G e));have p1:=m.cell rfl k (int i64 a[k]) (mh a k d);have p2:=m.cell rfl j (int i64 a[j]) (mh a j p);obtain⟨c0,W⟩:=b.cells;rw[lI]at W;have H:=G7 S.length a L k j p;have eg:a.getD k 0=a[k]:=(by rw[Xw,Xv d];rfl);rw[eg]at H;have c:a[k]*S.length+a[j]<L.length:=by
    rw[R];have:(a[k]+1)*S.length<=S.length*S.length:=ZM _ V;rw[Zac]at this;omega
   have P:a[k]*S.length<=10000*10000:=YF (by omega) U;have r:Xq _:=(fun N e=>b.mark N e (a[k]*S.length+a[j]) (by rw[lI];exact c));have s:Xq _:=H;rcases b.marks.Zbu with ⟨_,D,_⟩ | ⟨N,X,C,t,u,-⟩
   ·have:(lh S.length a L k j).length=0:=D;rw[lI]at this;omega
   ·have ac:L.length<=M.cap:=(by have:(lh S.length a L k j).length<=M.cap:=u;rw[lI]at this;exact this);have ai:=zcW t;have p3:=b.marks.cell C (a[k]*S.length+a[j]) (bool ((lh S.length a L k j)[a[k]*S.length+a[j]]'(by rw[lI];exact c))) (by simp[tE,vV,lI,c]);rw[C]at W;clear H t u m;generalize (lh S.length a L k j)[a[k]*S.length+a[j]]'(by rw[lI];exact c)=old at *;generalize G:a[k]=x at *;generalize hy:a[j]=y at *;obtain⟨q,hq⟩:∃q,x*S.length=q:=⟨_,rfl⟩
    have am:(x:Int)*(S.length:Int)=(q:Int):=(by rw[<-hq];simp);rw[hq]at c P p3 r s;clear G hy eg;go_wp2_with fail;go_quiet (fail);go_wp2;go_roundg (a.length-(j+1))
    ·exact⟨j+1,by omega,rfl,by go_num,by rw[s.o];exact(r.o N C).Zbj (bH.drewN nq),(l.Zbj (bH.drewN nq)).setCell (XQ (by unfold Hd.Zbx;rw[C];rfl)) _⟩
    omega
  ·have e:j=a.length:=(by omega);subst e;rw[HR.o]at b;go_wp2;go_roundg (a.length-(k+1))
   ·exact⟨k+1,by omega,rfl,by go_num,b,l⟩
   omega
 ·have e:k=a.length:=by omega
  subst e;rw[Kk]at E;go_wp2;go_end0;exact⟨rfl,E,O⟩
def fE(side:Nat)(ms:List Bool)(i j:Nat):Bool:=!(i==j)&&ms.getD (i*side+j) false
theorem Dz(a:f<z6)(b:d<z6):f*z6+d<z6*z6:=by
 have:(f+1)*z6<=z6*z6:=ZM _ a;rw[Zac]at this;omega
set_option maxRecDepth 512
theorem tR(h:mA T v S L zf M)(j:L.length=S.length*S.length)(k:S.length<=10000)(y:H<S.length)(z:w<S.length) :
  Calls prog 214 #[pointer (some ⟨v,0,none⟩),int i64 H,int i64 w] T fun e C=>e=returned (bool (fE S.length L H w))/\C=T:=by
 obtain⟨D,t⟩:=h.cells;have a:H*S.length+w<L.length:=by rw[j];exact Dz y z
 have i:H*S.length<=10000*10000:=YF (by omega) k;rcases h.marks.Zbu with ⟨_,u,_⟩ | ⟨E,m,p,g,c,-⟩
 ·have:L.length=0:=u;omega
 ·have r:L.length<=M.cap:=c;have B:=h.marks.cell p (H*S.length+w) (bool L[H*S.length+w]) (by simp[tE,vV,a]);have n:L.getD (H*S.length+w) false=L[H*S.length+w]:=by rw[Xw,Xv a];rfl
  have d:Xq (fE S.length L H w=(!(H==w)&&L[H*S.length+w])):=cm (by unfold fE;rw[n]);rw[p]at t;generalize L[H*S.length+w]=l at *;obtain⟨q,s⟩:∃q,H*S.length=q:=⟨_,rfl⟩
  have A:(H:Int)*(S.length:Int)=(q:Int):=by rw[<-s];simp
  rw[s]at a i B;clear n g c h;by_cases b:H=w
  ·have x:((H:Int) != (w:Int))=false:=(by simp[b]);have f:Xq (fE S.length L H w=false):=cm (by rw[d.o];simp[b]);clear d;go_enter func214,ntmps214;go_wp2;go_ret;exact⟨aH f.o.symm,rfl⟩
  ·have x:((H:Int) != (w:Int))=true:=(by simp;omega);have f:Xq (fE S.length L H w=l):=cm (by rw[d.o];simp[b]);clear d;go_enter func214,ntmps214;go_wp2;go_ret;exact⟨aH f.o.symm,rfl⟩
def wh(l:List St)(a n:Nat):Bool:=match l[n]? with | some s=>(s.Zby==1)&&iI l n a | none=>false
theorem U4(h:w<y.length):wh y H w=((y[w].Zby==1)&&iI y w H):=by
 unfold wh;rw[Xv h]
def dP(l:List St)(a:Nat)(vs:Xs):Nat->List Bool
 | 0=>List.replicate (vs.length*vs.length) false
 | k+1=>if wh l a k=true then nO vs.length (bR vs (symsAt l k)) (dP l a vs k) else dP l a vs k
def ii(l:List St)(a:Nat)(vs:Xs):List Bool:=dP l a vs l.length
theorem lT(k:Nat):(dP y w l k).length=l.length*l.length:=by
 induction k with
 | zero=>simp[dP]
 | succ k a =>
  rw[dP];split
  ·unfold nO;rw[wE,a]
  ·exact a
theorem MQ(h:bZ N y9=some f):f<N.length:=by
 have:=XS h;simpa using this
theorem wJ(h:w<(bR S z3).length):(bR S z3)[w]<S.length:=by
 have a:=XM h;unfold bR at a;rw[ZaH]at a;obtain⟨x,_,b⟩:=a;exact MQ b
theorem zax:(prog.info? 4).map (fun i=>(i.zero,i.size,i.bytes))=some (some (bool false),1,1):=by kernel_rfl
theorem Sh:madeCells #[y5] w=(List.replicate w y5).toArray:=by
 apply Array.ext
 ·rw[YJ];simp
 ·intro i a b;have h:i<w:=by rw[YJ]at a;exact a
  have:=EK y5 w i h;rw[Zg a]at this;simp at this ⊢;exact this
theorem aa.ofP(K:aa [] n i)(g:fB y6 i y8)(b:∀k,y6 k->n.heap.size<=k):aa [] n y8 :=
 ⟨g.os.trans K.os,g.tape.trans K.tape,g.output.trans K.output,XF K.size g.size,fun k a _=>(g.block k (XB a K.size) (fun e=>by have:=b k e;omega)).trans (K.block k a (by simp))⟩
set_option maxRecDepth 100000
theorem JE(h:dQ T v H b a)(ok:iV b)(hO:aD T I (aE l))(L:l.length<=10000) :
  Calls prog 208 #[pointer (some ⟨v,H,none⟩),int i64 w,slice I.ao l.length I.cap] T fun e w'=>∃(tb:Nat) (s p:Hd),e=returned (pointer (some ⟨tb,0,none⟩))/\mA w' tb l (ii b w l) s p/\T.heap.size<=tb/\(∀x,s.Zbx=some x∨p.Zbx=some x->T.heap.size<=x)/\aa [] T w':=by
 obtain⟨i0,hi,aS,Z,aT⟩:=XV i9;obtain⟨i1,an,av,ax,az⟩:=XV zax;have a0:=ok.len;obtain⟨q,hq⟩:∃q,l.length*l.length=q:=⟨_,rfl⟩
 have a4:(l.length:Int)*(l.length:Int)=(q:Int):=by rw[<-hq];simp
 have a5:q<=10000*10000:=by rw[<-hq];exact YF L L
 have m1:=fun T=>bY (P:=prog) T 61 9 i0 _ underlying61 hi aS l.length 1 Z (by rw[aT];omega) (by omega);have m2:=fun T=>bY (P:=prog) T 134 4 i1 _ underlying134 an av q 1 ax (by rw[az];omega) (by omega);obtain⟨z,j⟩:∃mc,mc=madeCells (string ⟨#[]⟩).cells (l.length*1):=⟨_,rfl⟩
 obtain⟨o,m⟩:∃mc,mc=madeCells (bool false).cells (q*1):=⟨_,rfl⟩
 have z1:z.size=l.length*1:=by rw[j,YJ]
 have Q:Xq (o=(vV (dP b w l 0)).toArray):=by
  show _=_;rw[m,ZN,<-hq];have:(bool false).cells=#[bool false]:=rfl;rw[this,Sh];simp[dP,vV]
 rw[<-j]at m1;rw[<-m]at m2;clear j m;have K2:aa [] T (T.alloc (.cells z 9)):=bH.alloc _;have A:Xq ((prog.info? (aE l).e).map (·.size)=some (aE l).size):=cm (by simp[aE,hi,Z]);obtain⟨f,R,D,W,ac⟩:=tU (P:=prog) (T.alloc (.cells z 9)) 61 61 3 T.heap.size l.length I (aE l) z 9 underlying61 A.o (XD _ _) (hO.Zbo (fun x t=>K2.block x (hO.lt t) (by simp))) z1 (mw _);simp only[aE]at R D;have B:f.heap.size=T.heap.size+1:=by rw[ac];simp
 have K3:aa [] T f:=((K2.mono (S':=[T.heap.size]) (by simp)).trans W).mono (by simp);obtain⟨W4,d⟩:∃W4,W4=(f.alloc (.cells o 4)).alloc (.cells #[slice (some ⟨T.heap.size,0,none⟩) l.length l.length,slice (some ⟨f.heap.size,0,none⟩) q q] 327):=⟨_,rfl⟩
 have K4:aa [] T W4:=by rw[d];exact(K3.alloc _).alloc _
 have G:Xq (q=(dP b w l 0).length):=cm (by rw[lT,hq]);have A4:mA W4 (f.heap.size+1) l (dP b w l 0) ⟨some ⟨T.heap.size,0,none⟩,l.length⟩ ⟨some ⟨f.heap.size,0,none⟩,q⟩:=by
  refine⟨?_,?_,?_,?_,?_,?_⟩
  ·rw[d,<-G.o];have:=XD (f.alloc (.cells o 4)) (.cells #[slice (some ⟨T.heap.size,0,none⟩) l.length l.length,slice (some ⟨f.heap.size,0,none⟩) q q] 327);simpa using this
  ·refine aD.made (r:=aE l) ?_ (IR _) (by simp only[aE];unfold maxLen;omega);rw[d];exact((bH.alloc _).alloc _).get D (by simp)
  ·have e:(⟨some ⟨f.heap.size,0,none⟩,q⟩:Hd)=⟨some ⟨f.heap.size,0,none⟩,(tE (dP b w l 0)).n⟩:=(by rw[G.o];rfl);rw[e];refine aD.made (r:=tE (dP b w l 0)) ?_ (CL _) (by simp only[tE];rw[<-G.o];unfold maxLen;omega);rw[d];have:=((aa.refl [] (f.alloc (.cells o 4))).alloc (.cells #[slice (some ⟨T.heap.size,0,none⟩) l.length l.length,slice (some ⟨f.heap.size,0,none⟩) q q] 327)).get (XD f (.cells o 4)) (by simp);rw[this,Q.o];rfl
  ·intro e;simp[Hd.Zbx]at e;omega
  ·intro e;simp[Hd.Zbx]at e
  ·right;intro e;simp[Hd.Zbx]at e;omega
 have C:Xq _:=d.symm;rw[B]at C A4;clear d W D Q K2 hO A z1 ac;obtain⟨s,F⟩:∃s:Hd,s=⟨some ⟨T.heap.size,0,none⟩,l.length⟩:=⟨_,rfl⟩
 obtain⟨p,E⟩:∃p:Hd,p=⟨some ⟨T.heap.size+1,0,none⟩,q⟩:=⟨_,rfl⟩
 rw[<-F,<-E]at A4;have HB:Xq (∀x,s.Zbx=some x∨p.Zbx=some x->T.heap.size<=x/\x<=T.heap.size+1):=by
  intro x t;rw[F,E]at t;simp[Hd.Zbx]at t;omega
 clear F E;go_enter func208,ntmps208;go_upto_region 4 with fail
 rw[C.o];clear C m1 m2 R K3 B;go_wp2
 go_loopg [9] b.length (fun gk i wr=>∃k:Nat,k<=b.length/\gk=b.length-k/\i=int i64 k/\mA wr (T.heap.size+1+1) l (dP b w l k) s p/\aa [] T wr)
 ·exact⟨0,by omega,by omega,rfl,A4,K4⟩
 obtain⟨k,hk,hg,rfl,S,U⟩:=hrel;have J:=h.Zbj U;have a1:=S.lt;clear A4 K4;by_cases c:k<b.length
 ·have M:Xq _:=U4 b w k c;have a6:=ok.syms k c;have a2:=ok.pos k c;have SY:Xq (symsAt b k=b[k].Zbe):=qR b k c;have N:Xq (dP b w l (k+1)=if wh b w k=true then nO l.length (bR l (symsAt b k)) (dP b w l k) else dP b w l k):=rfl;cases Y:(b[k].Zby==1)
  ·have O:Xq (dP b w l (k+1)=dP b w l k):=(by show _=_;rw[N.o,M.o,Y];simp);clear M N SY;go_wp2_with (first | (go_at_call 79;refine(fn v H b a _ (by exact J)).mono ?_;rintro e wc ⟨rfl,rfl⟩) | (go_at_call 96;refine(bu v H k b a _ (by exact J) c).mono ?_;rintro e w5 ⟨rfl,g⟩;unfold du));go_roundg (b.length-(k+1))
   ·exact⟨k+1,by omega,rfl,by go_num,by rw[O.o];exact(S.Zbj g).Zbj (bH.alloc _),(U.trans g).alloc _⟩
   omega
  ·go_wp2_with (first | (go_at_call 79;refine(fn v H b a _ (by exact J)).mono ?_;rintro e wc ⟨rfl,ar⟩;rw[ar]) | (go_at_call 96;refine(bu v H k b a _ (by exact J) c).mono ?_;rintro e w5 ⟨rfl,g⟩;unfold du));obtain⟨W6,y⟩:∃W6,W6=w5.alloc (.cells #[int i64 b[k].Zby,string b[k].Zbz,slice (a (10+2*k)).ao b[k].Zbe.length (a (10+2*k)).cap,slice (a (11+2*k)).ao b[k].Zbp.length (a (11+2*k)).cap,string b[k].ZbC.ZbD,int i64 b[k].ZbC.ZbE,int i64 b[k].ZbC.ZbF,int i64 b[k].til] 158):=⟨_,rfl⟩
   rw[<-y];have k6:aa [] wr W6:=by rw[y];exact g.alloc _
   have B6:=dC y.symm;obtain⟨-,-,q2,-⟩:=yY B6;have K:=J.Zbj k6;have u:=S.Zbj k6;have V:=U.trans k6;have am:=(K.Zbv.syms k b[k] (Xv c)).view;clear y g k6 B6 J S U;cases hh:iI b k w
   ·have O:Xq (dP b w l (k+1)=dP b w l k):=(by show _=_;rw[N.o,M.o,hh];simp);clear M N SY;go_wp2_with (go_at_call 186;refine(i8 v H k w b a _ (by exact K) c).mono ?_;rintro e w7 ⟨rfl,rfl⟩);go_roundg (b.length-(k+1))
    ·exact⟨k+1,by omega,rfl,by go_num,by rw[O.o];exact u,V⟩
    omega
   ·have O:Xq (dP b w l (k+1)=nO l.length (bR l b[k].Zbe) (dP b w l k)):=(by show _=_;rw[N.o,M.o,Y,hh,SY.o];simp);clear M N SY;go_wp2_with (first | (go_at_call 186;refine(i8 v H k w b a _ (by exact K) c).mono ?_;rintro e w7 ⟨rfl,aq⟩;rw[aq]) | (go_at_call 237;refine(Cm (T.heap.size+1+1) l (dP b w l k) s p (a (10+2*k)) b[k].Zbe _ (by exact u) (by omega) (by exact am) (by omega)).mono ?_;rintro e w8 ⟨hd,rfl,al,ai,X⟩));have ad:=u.Zbj X;have a3:=uK l b[k].Zbe
    refine(GZ (T.heap.size+1+1) l (dP b w l k) s p hd (bR l b[k].Zbe) _ ad (lT _ _ _ _) L al (by omega) (fun i hi=>wJ l b[k].Zbe i hi) (by
     intro x t e;have h1:=ai x t;have h2:=HB.o x (XK e);have h3:=u.lt
     omega)).mono ?_
    rintro e w9 ⟨rfl,af,ap⟩;have ag:=(V.trans X).ofP ap (fun x t=>(HB.o x (XK t)).1);go_wp2;go_roundg (b.length-(k+1))
    ·exact⟨k+1,by omega,rfl,by go_num,by rw[O.o];exact af,ag⟩
    omega
 ·have e:k=b.length:=by omega
  subst e;go_wp2_with (go_at_call 79;refine(fn v H b a _ (by exact J)).mono ?_;rintro e wc ⟨rfl,rfl⟩);go_ret;exact⟨T.heap.size+1+1,s,p,rfl,S,by omega,fun x t=>(HB.o x t).1,U⟩
structure aO(w:World)(b t:Nat)(cs:List Value)(rows:Nat->eD)(H:Nat->Hd):Prop where
 Zbx:w.heap[b]?=some (.cells cs.toArray t)
 ZbH:∀i,aD w (H i) (rows i)
 apart:∀i j,i≠j->(H i).Zbx=none∨(H i).Zbx≠(H j).Zbx
 off:∀i,(H i).Zbx≠some b
theorem aO.lt(h:aO n f d g z2 x):f<n.heap.size:=ah h.Zbx
theorem aO.inlt(h:aO n f d g z2 x)(b:eG x z6):z6<n.heap.size:=by
 obtain⟨i,a⟩:=b;exact(h.ZbH i).lt a
theorem aO.free(h:aO n f d g z2 x)(i:Nat):n.frozen? ⟨f,i,none⟩=false:=zcW h.Zbx i
theorem aO.cell(h:aO n f d g z2 x)(i:Nat):n.cell? ⟨f,i,none⟩=g[i]?:=by rw[ab h.Zbx];simp
theorem aO.keptP(h:aO n f d g z2 x)(c:fB y6 n i)(e:¬y6 f)(j:∀k,eG x k->¬y6 k):aO i f d g z2 x :=
 ⟨c.get h.Zbx e,fun b=>(h.ZbH b).Zbo (fun k a=>c.block k ((h.ZbH b).lt a) (j k ⟨b,a⟩)),h.apart,h.off⟩
theorem aO.Zbw(h:aO n f d g z2 x)(b:aa z8 n i)(a:f∉z8)(e:∀k,eG x k->k∉z8):aO i f d g z2 x :=
 h.keptP (b.toP (P:=(·∈z8)) (fun _ c _=>c)) a e
theorem aO.Zbj(h:aO n f d g z2 x)(a:aa [] n i):aO i f d g z2 x:=h.Zbw a (by simp) (by simp)
theorem aO.put{rows':Nat->eD}(h:aO n f d g z2 x)(c m:Nat)(s:Hd)(G:aD i s (rows' m))(v:n.grownBy i (x m).Zbx)(b:s.Zbx=none∨s.Zbx=(x m).Zbx∨∃y,s.Zbx=some y/\n.heap.size<=y)(A:∀j,j≠m->rows' j=z2 j)(u:Value) :
  aO (i.setCell ⟨f,c,none⟩ u) f d (g.set c u) rows' (gj x m s)/\aw f n x (i.setCell ⟨f,c,none⟩ u) (gj x m s):=by
 have F:=h.lt;have B:i.heap[f]?=some (.cells g.toArray d):=(v.block f F (fun e=>h.off m e.symm)).trans h.Zbx;have t:∀j,(gj x m s j).Zbx≠some f:=by
  intro j;by_cases e:j=m
  ·subst e;rw[dS];intro w;rcases b with b | b | ⟨y,b,p⟩
   ·rw[b]at w;cases w
   ·exact h.off j (b ▸ w)
   ·rw[b]at w;cases w;omega
  ·rw[cJ _ _ _ _ e];exact h.off j
 refine⟨⟨?_,?_,?_,t⟩,⟨v.os,v.tape,v.output,by have:=v.size;simp[World.setCell];omega,?_⟩,?_⟩
 ·rw[ae B,Yh]
 ·intro j;have q:aD i (gj x m s j) (rows' j):=by
   by_cases e:j=m
   ·subst e;rw[dS];exact G
   ·rw[cJ _ _ _ _ e,A j e];refine(h.ZbH j).Zbo (fun k o=>v.block k ((h.ZbH j).lt o) ?_);intro z;rcases h.apart j m e with a | a
    ·rw[a]at o;cases o
    ·exact a (o.trans z)
  refine q.Zbo (fun k o=>XN _ _ _ _ ?_);rintro rfl;exact t j o
 ·intro j l r;by_cases e:j=m
  ·subst e;rw[dS,cJ _ _ _ _ (fun e=>r e.symm)];rcases b with b | b | ⟨y,b,p⟩
   ·exact XQ b
   ·rw[b];exact h.apart j l r
   ·right;rw[b];intro z;have:=(h.ZbH l).lt z.symm;omega
  ·rw[cJ _ _ _ _ e];by_cases C:l=m
   ·subst C;rw[dS];rcases b with b | b | ⟨y,b,p⟩
    ·rw[b];cases (x j).Zbx <;> simp
    ·rw[b];exact h.apart j l r
    ·cases w:(x j).Zbx with
     | none=>exact XQ rfl
     | some k=>right;rw[b];intro z;cases z;have:=(h.ZbH j).lt w;omega
   ·rw[cJ _ _ _ _ C];exact h.apart j l r
 ·intro k o E;rw[XN _ _ _ _ (fun e=>E (XQ e))];exact v.block k o (fun e=>E (XK ⟨m,e.symm⟩))
 ·intro k o;obtain⟨j,e⟩:=o;by_cases D:j=m
  ·subst D;rw[dS]at e;rcases b with b | b | ⟨y,b,p⟩
   ·rw[b]at e;cases e
   ·exact XQ ⟨j,b ▸ e⟩
   ·rw[b]at e;cases e;exact XK p
  ·rw[cJ _ _ _ _ D]at e;exact XQ ⟨j,e⟩
theorem aO.set(h:aO n f d g z2 x)(c:Nat)(u:Value) :
  aO (n.setCell ⟨f,c,none⟩ u) f d (g.set c u) z2 x/\aw f n x (n.setCell ⟨f,c,none⟩ u) x:=by
 refine⟨⟨?_,?_,h.apart,h.off⟩,(fB.refl _ _).setCell (XQ (XQ rfl)) _,fun _ a=>XQ a⟩
 ·rw[ae h.Zbx,Yh]
 ·intro j;refine(h.ZbH j).Zbo (fun k a=>XN _ _ _ _ ?_);rintro rfl;exact h.off j a
theorem aO.app{cs':List Value}{rows':Nat->eD}(h:aO n f d g z2 x)(c l b a m:Nat)(r:eD)(q:aD i ⟨some ⟨b,0,none⟩,a⟩ r)(v:r=rows' l)(o:n.grownBy i (x l).Zbx)(k:(x l).Zbx=some b∨n.heap.size<=b)(p:∀j,j≠l->rows' j=z2 j)(t:Value)(w:g[c]?=some t)(u:g.set c (slice (some ⟨b,0,none⟩) m a)=cs') :
  i.cell? ⟨f,c,none⟩=some t/\i.frozen? ⟨f,c,none⟩=false /\
  Xq (aO (i.setCell ⟨f,c,none⟩ (slice (some ⟨b,0,none⟩) m a)) f d cs' rows' (gj x l ⟨some ⟨b,0,none⟩,a⟩) /\
   aw f n x (i.setCell ⟨f,c,none⟩ (slice (some ⟨b,0,none⟩) m a)) (gj x l ⟨some ⟨b,0,none⟩,a⟩)):=by
 have s:=(o.block f h.lt (fun e=>h.off l e.symm)).trans h.Zbx;subst v;subst u;refine⟨by rw[ab s];simpa using w,zcW s _,?_⟩;exact h.put (rows':=rows') c l ⟨some ⟨b,0,none⟩,a⟩ q o
  (by
    rcases k with e | e
    ·exact XK (XQ e.symm)
    ·exact XK (XK ⟨b,rfl,by simpa using e⟩)) p _
structure zK(w:World)(b o g:Nat)(L:List Rw):Prop where
 cell:∃arr t,w.heap[b]?=some (.cells arr t)/\arr[o+2]?=some (slice (some ⟨g,0,none⟩) L.length L.length)
 arr:w.heap[g]?=some (.cells (mF L).toArray 38)
theorem zK.Zbj(h:zK n f d z6 y7)(k:aa [] n i):zK i f d z6 y7:=by
 obtain⟨a,t,b,c⟩:=h.cell;exact⟨⟨a,t,k.get b (by simp),c⟩,k.get h.arr (by simp)⟩
theorem zK.at2(h:zK n f d z6 y7):n.cell? ⟨f,d+2,none⟩=some (slice (some ⟨z6,0,none⟩) y7.length y7.length):=by
 obtain⟨a,t,b,c⟩:=h.cell;rw[ab b];exact c
structure oI where
 Zby:Int
 Zbf:Nat
 at_:Pl
def mO(s:oI):List Value:=[int i64 s.Zby,int i64 s.Zbf,string s.at_.ZbD,int i64 s.at_.ZbE,int i64 s.at_.ZbF]
def Bp(l:List oI):List Value:=l.flatMap mO
def iO(l:List oI):eD:=⟨174,5,l.length,Bp l⟩
theorem xS(l:List oI)(s:oI):(⟨(iO l).e,(iO l).size,(iO l).n+1,(iO l).xs++mO s⟩:eD)=iO (l++[s]):=by simp[iO,Bp]
theorem xX(s:oI):∀u∈mO s,u.oneCell'=true:=by
 intro u a;simp only[mO,List.mem_cons,List.not_mem_nil,or_false]at a;rcases a with rfl | rfl | rfl | rfl | rfl <;> rfl
theorem Xc:(prog.info? 174).map (fun i=>(i.zero,i.size,i.bytes))=some (some (agg #[int i64 0,int i64 0,string ⟨#[]⟩,int i64 0,int i64 0]),5,48):=by kernel_rfl
structure nC where
 ZbB:Xu
 Zbr:Xu
 steps:List oI
 Zbl:Nat
 behind:Bool
def Ba(c:nC):Nat->eD
 | 0=>bK c.ZbB
 | 1=>bK c.Zbr
 | 2=>iO c.steps
 | _+3=>bK []
def nE(c:nC)(H:Nat->Hd):List Value :=
 [slice (H 0).ao c.ZbB.length (H 0).cap,slice (H 1).ao c.Zbr.length (H 1).cap,slice (H 2).ao c.steps.length (H 2).cap,int i64 c.Zbl,bool c.behind]
def eU(w:World)(b:Nat)(c:nC)(H:Nat->Hd):Prop:=aO w b 279 (nE c H) (Ba c) H
theorem eU.cells{c:nC}(h:eU n f c x) :
  n.cell? ⟨f,0,none⟩=some (slice (x 0).ao c.ZbB.length (x 0).cap)/\n.cell? ⟨f,1,none⟩=some (slice (x 1).ao c.Zbr.length (x 1).cap)/\n.cell? ⟨f,2,none⟩=some (slice (x 2).ao c.steps.length (x 2).cap) /\
  n.cell? ⟨f,3,none⟩=some (int i64 c.Zbl)/\n.cell? ⟨f,4,none⟩=some (bool c.behind) :=
 ⟨aO.cell h 0,aO.cell h 1,aO.cell h 2,aO.cell h 3,aO.cell h 4⟩
structure iU(c:nC)(N:Nat):Prop where
 ZbB:c.ZbB.length<=N
 Zbr:c.Zbr.length<=N
 steps:c.steps.length<=N
 Zbl:c.Zbl<=10*N+5
 behind:c.behind=true->0<c.steps.length
def fc(c:nC)(s:oI):nC:={ c with steps:=c.steps++[s],behind:=false }
theorem sH(c:nC)(H:Nat->Hd)(k:Int)(n:Nat)(f:Xr)(l b:Int)(v:World)(h:eU v w c H)(Z:iU c 10000000) :
  Calls prog 243 #[pointer (some ⟨w,0,none⟩),agg #[int i64 k,int i64 n,string f,int i64 l,int i64 b]] v fun e I=>e=returned (tuple #[])/\∃x,eU I w (fc c ⟨k,n,⟨f,l,b⟩⟩) x/\aw w v H I x/\∀j,j≠2->x j=H j:=by
 obtain⟨X,T,C,D,E⟩:=XV Xc;have V:=Z.steps;obtain⟨W,t⟩:∃W,W=v.alloc (.cells #[int i64 k,int i64 n,string f,int i64 l,int i64 b] 174):=⟨_,rfl⟩
 have K:=dx t.symm;have y:eU W w c H:=aO.Zbj h K;have B:=dC t.symm;obtain⟨y0,y1,y2,y3,y4⟩:=nJ B;obtain⟨L,M,N,O,P⟩:=y.cells;clear L M O;have R:=aO.lt y;have G:Xq (eU (W.alloc (.cells #[int i64 k,int i64 n,string f,int i64 l,int i64 b] 174)).drew w c H):=aO.Zbj y ((aa.refl [] W).alloc _).drew;have s2:Xq (∀j u,(mO ⟨k,n,⟨f,l,b⟩⟩)[j]?=some u->(W.alloc (.cells #[int i64 k,int i64 n,string f,int i64 l,int i64 b] 174)).drew.cell? ((⟨W.heap.size,0,none⟩:Addr).add j)=some u):=by
  intro j u p;have U:(W.alloc (.cells #[int i64 k,int i64 n,string f,int i64 l,int i64 b] 174)).drew.heap[W.heap.size]?=some (.cells #[int i64 k,int i64 n,string f,int i64 l,int i64 b] 174):=XD _ _;rw[bE,ab U];simpa [mO] using p
 have s4:Xq ((iO c.steps).n+1<=maxLen):=by show _<=_;simp only[iO];unfold maxLen;omega
 have s5:Xq (((iO c.steps).n+1)*48<=140737488355328):=by show _<=_;simp only[iO];omega
 have J:Xq _:=t.symm;have A:Xq (∀j,j≠2->Ba { c with steps:=c.steps++[⟨k,n,⟨f,l,b⟩⟩] } j=Ba c j):=by
  intro j p
  match j,p with
  | 0,_=>rfl
  | 1,_=>rfl
  | 2,p=>exact absurd rfl p
  | m+3,_=>rfl
 clear t B h;go_enter func243,ntmps243;go_upto_region 1 with fail
 rw[J.o];go_region_law (refine bB rfl (.tmp 8) (.tmp 10) 163 rfl X (agg #[int i64 0,int i64 0,string ⟨#[]⟩,int i64 0,int i64 0]) 48 (H 2) (iO c.steps) underlying163 T C D E rfl (ZD 4) (by simp[Act.eval] <;> rfl) (aO.ZbH G.o 2) ⟨W.heap.size,0,none⟩ 1 1 (mO ⟨k,n,⟨f,l,b⟩⟩) (by simp[Act.eval]) rfl s2.o (xX _) XR s4.o s5.o ?_;intro g i w1 r q a;obtain⟨Y,Q,s⟩:=aO.app G.o (cs':=nE { c with steps:=c.steps++[⟨k,n,⟨f,l,b⟩⟩] } (gj H 2 ⟨some ⟨g,0,none⟩,i⟩)) (rows':=Ba { c with steps:=c.steps++[⟨k,n,⟨f,l,b⟩⟩] }) 2 2 g i ((iO c.steps).n+1) _ r (xS c.steps ⟨k,n,⟨f,l,b⟩⟩) q (by simpa using a) A.o (slice (H 2).ao c.steps.length (H 2).cap) rfl (by simp[nE,gj,iO]);clear r q a)
 all_goals
  have F:Xq _:=aO.set s.o.1 4 (bool false);have z:=(aO.cell s.o.1 4);have S:=aO.free s.o.1;simp only[nE,List.getElem?_cons_succ,List.getElem?_cons_zero]at z;clear N P y0 y1 y2 y3 y4 Y Q;go_wp2;go_end0;exact⟨rfl,_,F.o.1,((s.o.2.first (bH.alloc _).drew).first K).trans F.o.2,fun j p=>cJ _ _ _ _ p⟩
end Go.Proofs.YtpdholcaobgofaaGreat
