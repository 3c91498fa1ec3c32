import Derived.BigQuiet
import Derived.Deep.RegionHeld3
import Derived.Test.YtpddjjabfbfifaaGreatG03
namespace Go.Proofs.YtpddjjabfbfifaaGreat
open Go.RowKit Tryz
set_option maxHeartbeats 0
variable{n a yy:World}{H i ya:Nat}{M:List St}{d:Nat->Hd}{yf:List Nat}{y9:List ByteArray}{y8:List Bool}{z6 y7:Hd}{yr:Nat->Prop}{z5:List Value}{z7:Nat->dN}(zb:ByteArray)(N o b:Nat)(y:List ByteArray)(z4:List Bool)(ys y5:Hd)(w:List St)(k:Nat->Hd)(zt:Hd)(x:List ByteArray)(S:List Nat)(yd:List Bool)(g:Nat)(I:Pl)(yt:Value)(f:Nat)(L:ByteArray)(T:World)(yg:pA)(D:List (ByteArray×Pl))(y6:List Nat)(l:Nat)(yv:List ByteArray)(v:Fs)
section
structure iH(l:List St):Prop where
 len:l.length<=10000
 pos:∀i (h:i<l.length),0<l[i].U6.length
 syms:∀i (h:i<l.length),l[i].U6.length<=10000
 prfs:∀i (h:i<l.length),l[i].Vh.length<=10000
theorem ab.grown{b:Option Nat}(K:ab [] n a)(g:a.grownBy yy b)(d:∀k,b=some k->n.heap.size<=k):ab [] n yy :=
 ⟨g.os.trans K.os,g.tape.trans K.tape,g.output.trans K.output,Q3 K.size g.size,fun k c _=>(g.block k (QX c K.size) (fun e=>by have:=d k e.symm;omega)).trans (K.block k c (by simp))⟩
theorem wa(k l c u:Int)(a f:ByteArray)(b g:Option Addr)(e d i h:Nat) :
  (Instr.field 158 (.agg #[.int .i64 k,.string a,.slice b e d,.slice g i h,.string f,.int .i64 l,.int .i64 c,.int .i64 u]) 2).run prog T=.ok (.slice b e d) T:=by kernel_rfl
attribute [local go_sem] wa
def zQ(l:List St)(a n:Nat):Bool:=match l[n]? with | some s=>(s.kind==3)&&g7 l n a | none=>false
theorem OT(h:l<w.length):zQ w f l=((w[l].kind==3)&&g7 w l f):=by
 unfold zQ;rw[QP h]
def eJ(l:List St)(a k:Nat):List ByteArray:=symsAt l a++((List.range k).filter (zQ l a)).flatMap (symsAt l)
def f8(l:List St)(a:Nat):List ByteArray:=eJ l a l.length
theorem od(h:l<w.length):symsAt w l=w[l].U6:=by
 unfold symsAt;rw[QP h]
theorem uS:eJ w l 0=symsAt w l:=by unfold eJ;rw[List.range_zero];rw[List.filter_nil,List.flatMap_nil,Rl]
theorem xo(h:zQ w f l=true):eJ w f (l+1)=eJ w f l++symsAt w l:=by
 unfold eJ;rw[R6,RV];simp[h]
theorem uu(h:zQ w f l=false):eJ w f (l+1)=eJ w f l:=by
 unfold eJ;rw[R6,RV];simp[h]
theorem xn(k:Nat)(b:iH w)(a:l<w.length)(f:k<=w.length):(eJ w l k).length<=10000+k*10000:=by
 induction k with
 | zero =>
  have:=b.syms l a;have e:=congrArg List.length (uS w l);have c:=congrArg List.length (od w l a);omega
 | succ k d =>
  have:=d (by omega)
  cases h:zQ w l k with
  | true =>
   have e:=congrArg List.length (xo w l k h);have c:=congrArg List.length (od w k (by omega));have:=b.syms k (by omega);rw[Q0]at e;omega
  | false =>
   have e:=congrArg List.length (uu w l k h);omega
set_option maxRecDepth 100000
theorem xR(h:dF T N o w k)(J:b<w.length)(K:iH w) :
  Calls prog 186 #[.pointer (some ⟨N,o,none⟩),.int .i64 b] T fun e w'=>∃l:Hd,e=.returned (.slice l.ao (f8 w b).length l.cap)/\aw w' l (aB (f8 w b))/\(∀a,l.blk=some a->T.heap.size<=a)/\ab [] T w':=by
 obtain⟨i0,hi,X,Y,Z⟩:=Re js;have ai:=K.len;have al:=h.lt;go_enter func186,ntmps186;go_wp2_with fail;refine(a9 N o b w k _ h J).mono ?_;rintro e w1 ⟨rfl,v⟩;have h1:=h.Vb v;have O1:=h1.Vn.syms b w[b] (QP J);have hp:=K.pos b J;have hm:=K.syms b J
 rcases O1.Vm with ⟨_,h0,_⟩ | ⟨g1,af,e1,-⟩
 ·have:w[b].U6.length=0:=h0
  omega
 ·unfold ee
  rw[e1];have f:Hid (∀j u,(cN w[b].U6)[j]?=some u->w1.cell? ((⟨g1,0,none⟩:Addr).add j)=some u):=fun j u hj=>by rw[bL];exact O1.cell e1 j u hj
  have ES:Hid (eJ w b 0=w[b].U6):=by show _=_;rw[uS];exact od w b J
  have HO:Hid (aw w1 ⟨none,0⟩ (aB [])):=QZ _ _ _ _;clear O1;go_wp2_with (at_builtin;refine aM _ rfl (.tmp 8) (.tmp 12) 61 rfl i0 (.string ⟨#[]⟩) 16 ⟨none,0⟩ (aB []) underlying61 hi X Y Z rfl Rc rfl HO.out ⟨g1,0,none⟩ w[b].U6.length (k (10+2*b)).cap (cN w[b].U6) rfl ?c0 f.out (lY _) hp ?c3 ?c4 ?_)
  case c0=>simp[cN,aB]
  case c3=>simp only[aB,List.length_nil];unfold maxLen;omega
  case c4=>simp only[aB,List.length_nil];omega
  intro g O w2 G U m;rw[qu [] w[b].U6,Uu,<-ES.out]at G;have R:ab [] T w2:=v.grown U (by simp[Hd.blk])
  have an:T.heap.size<=g:=by
   rcases m with e | e
   ·simp[Hd.blk]at e
   ·exact Q3 v.size e
  have s:Hid ((aB []).n+w[b].U6.length=(eJ w b 0).length):=by show _=_;rw[ES.out];simp[aB]
  rw[s.out];clear f HO U m h1 v e1 hp hm s ES;go_wp2
  go_loopg [5,6] w.length (fun gk sv i wr=>∃(a:Nat) (l:Hd),a<=w.length/\gk=w.length-a/\i=.int .i64 a/\sv=.slice l.ao (eJ w b a).length l.cap/\aw wr l (aB (eJ w b a))/\(∀x,l.blk=some x->T.heap.size<=x)/\ab [] T wr)
  case atStart=>exact⟨0,⟨some ⟨g,0,none⟩,O⟩,by omega,by omega,rfl,rfl,G,by intro x H;simp[Hd.blk]at H;omega,R⟩
  case round =>
   obtain⟨a,l,hk,hg,rfl,rfl,I,S,Q⟩:=hrel;have A:=h.Vb Q;clear G R
   by_cases c:a<w.length
   ·have ax:=xn w b a K J (by omega)
    have p:Hid _:=OT w b a c;have ar:=K.syms a c;have ad:=K.pos a c;have B:=A.Vn.syms a w[a] (QP c)
    rcases B.Vm with ⟨_,h0,_⟩ | ⟨q,ag,ek,-⟩
    ·have:w[a].U6.length=0:=h0
     omega
    ·have SY:Hid (symsAt w a=w[a].U6):=od w a c
     cases V:(w[a].kind==3)
     ·have y:Hid (eJ w b (a+1)=eJ w b a):=uu w b a (by rw[p.out,V];rfl)
      clear p B;go_wp2_with (first | (go_at_call 80;refine(eM N o w k _ (by exact A)).mono ?_;rintro e L ⟨rfl,rfl⟩) | (go_at_call 97;refine(a9 N o a w k _ (by exact A) c).mono ?_;rintro e L ⟨rfl,r⟩;unfold ee))
      go_roundg (w.length-(a+1))
      case measure=>omega
      case rel=>exact⟨a+1,l,by omega,rfl,by go_num,by rw[y.out],by rw[y.out];exact I.Vg (fun x H=>(r.trans ((ab.refl [] _).alloc _)).block x (I.lt H) (by simp)),S,(Q.trans r).alloc _⟩
     ·go_wp2_with (first | (go_at_call 80;refine(eM N o w k _ (by exact A)).mono ?_;rintro e wc ⟨rfl,rfl⟩) | (go_at_call 97;refine(a9 N o a w k _ (by exact A) c).mono ?_;rintro e L ⟨rfl,r⟩;unfold ee))
      obtain⟨C,t⟩:∃C,C=L.alloc (.cells #[.int .i64 w[a].kind,.string w[a].label,.slice (some ⟨q,0,none⟩) w[a].U6.length (k (10+2*a)).cap,.slice (k (11+2*a)).ao w[a].Vh.length (k (11+2*a)).cap,.string w[a].fin.file,.int .i64 w[a].fin.line,.int .i64 w[a].fin.col,.int .i64 w[a].til] 158):=⟨_,rfl⟩
      rw[<-t];have k4:ab [] wc C:=by rw[t];exact r.alloc _
      have B4:C.heap[L.heap.size]?=some (.cells #[.int .i64 w[a].kind,.string w[a].label,.slice (some ⟨q,0,none⟩) w[a].U6.length (k (10+2*a)).cap,.slice (k (11+2*a)).ao w[a].Vh.length (k (11+2*a)).cap,.string w[a].fin.file,.int .i64 w[a].fin.line,.int .i64 w[a].fin.col,.int .i64 w[a].til] 158 (0,0)):=by rw[t];exact QS _ _
      have q2:C.cell? ⟨L.heap.size,2,none⟩=some (.slice (some ⟨q,0,none⟩) w[a].U6.length (k (10+2*a)).cap):=by rw[aa B4];rfl
      have F:=A.Vb k4;have E:aw C l (aB (eJ w b a)):=I.Vg (fun x H=>k4.block x (I.lt H) (by simp));have M:=F.Vn.syms a w[a] (QP c);have D:=Q.trans k4;have f:Hid (∀j u,(cN w[a].U6)[j]?=some u->C.cell? ((⟨q,0,none⟩:Addr).add j)=some u):=fun j u hj=>by rw[bL];exact M.cell ek j u hj
      clear t r k4 B4 A I B M Q
      cases hh:g7 w a b
      ·have y:Hid (eJ w b (a+1)=eJ w b a):=uu w b a (by rw[p.out,hh];simp)
       clear p;go_wp2_with (go_at_call 187;refine(gF N o a b w k _ (by exact F) c).mono ?_;rintro e w5 ⟨rfl,rfl⟩)
       go_roundg (w.length-(a+1))
       case measure=>omega
       case rel=>exact⟨a+1,l,by omega,rfl,by go_num,by rw[y.out],by rw[y.out];exact E,S,D⟩
      ·have y:Hid (eJ w b (a+1)=eJ w b a++w[a].U6):=by show _=_;rw[xo w b a (by rw[p.out,V,hh];rfl),SY.out]
       clear p SY;go_wp2_with (first | (go_at_call 187;refine(gF N o a b w k _ (by exact F) c).mono ?_;rintro e w5 ⟨rfl,rfl⟩) | (at_builtin;refine aM _ rfl (.tmp 32) (.tmp 34) 61 rfl i0 (.string ⟨#[]⟩) 16 l (aB (eJ w b a)) underlying61 hi X Y Z rfl Rc rfl (by exact E) ⟨q,0,none⟩ w[a].U6.length (k (10+2*a)).cap (cN w[a].U6) rfl ?d0 f.out (lY _) ad ?d3 ?d4 ?_))
       case d0=>simp[cN,aB]
       case d3=>simp only[aB];unfold maxLen;omega
       case d4=>simp only[aB];omega
       intro g5 P w5 W z d;rw[qu (eJ w b a) w[a].U6,<-y.out]at W;have ac:=D.grown z S
       have ap:T.heap.size<=g5:=by
        rcases d with e | e
        ·exact S g5 e
        ·exact Q3 D.size e
       have s:Hid ((aB (eJ w b a)).n+w[a].U6.length=(eJ w b (a+1)).length):=by show _=_;rw[y.out];simp[aB]
       rw[s.out];clear f z d q2 E;go_wp2
       go_roundg (w.length-(a+1))
       case measure=>omega
       case rel=>exact⟨a+1,⟨some ⟨g5,0,none⟩,P⟩,by omega,rfl,by go_num,rfl,W,by intro x H;simp[Hd.blk]at H;omega,ac⟩
   ·have e:a=w.length:=by omega
    subst e;go_wp2_with (go_at_call 80;refine(eM N o w k _ (by exact A)).mono ?_;rintro e L ⟨rfl,rfl⟩);go_ret;exact⟨l,rfl,I,S,Q⟩
end
def l6(l:List St)(syms:List ByteArray)(a n:Nat):Bool:=match l[n]? with | some s=>g7 l n a&&pN s syms | none=>false
theorem QO(h:l<w.length):l6 w x f l=(g7 w l f&&pN w[l] x):=by
 unfold l6;rw[QP h]
def dG(l:List St)(a k:Nat):List Nat:=(List.range k).filter (l6 l (f8 l a) a)
def aK(l:List St)(a:Nat):List Nat:=dG l a l.length
theorem wn(h:l6 w (f8 w f) f l=true):dG w f (l+1)=dG w f l++[l]:=by
 unfold dG;rw[R6,RV];simp[h]
theorem tX(h:l6 w (f8 w f) f l=false):dG w f (l+1)=dG w f l:=by
 unfold dG;rw[R6,RV];simp[h]
theorem oy:(dG w f l).length<=l:=by
 unfold dG;have:=Sc (l6 w (f8 w f) f) (List.range l);simpa using this
theorem Fp(a:iH w)(c:l<w.length):(f8 w l).length<=1073741824:=by
 have d:=xn w l w.length a c (QR _);have b:=a.len;have e:w.length*10000<=10000*10000:=Ur _ b;unfold f8;omega
set_option maxRecDepth 100000
theorem mA(h:dF T N o w k)(ha:b<w.length)(L:iH w) :
  Calls prog 142 #[.pointer (some ⟨N,o,none⟩),.int .i64 b] T fun e C=>∃g:Hd,e=.returned (.slice g.ao (aK w b).length g.cap)/\aw C g (bB (aK w b))/\(∀a,g.blk=some a->T.heap.size<=a)/\ab [] T C:=by
 obtain⟨i0,hi,V,W,X⟩:=Re yH;have ac:=L.len;have af:=h.lt;have H:=Fp w b L ha;go_enter func142,ntmps142;go_wp2_with fail;refine(xR N o b w k _ h ha L).mono ?_;rintro e Y ⟨U,rfl,R,ad,y⟩;go_wp2
 go_loopg [5,7] w.length (fun gk sv i wr=>∃(a:Nat) (g:Hd),a<=w.length/\gk=w.length-a/\i=.int .i64 a/\sv=.slice g.ao (dG w b a).length g.cap/\aw wr g (bB (dG w b a))/\(∀x,g.blk=some x->Y.heap.size<=x)/\ab [] Y wr)
 case atStart=>exact⟨0,⟨none,0⟩,by omega,by omega,rfl,rfl,QZ _ _ _ _,by intro x q;simp[Hd.blk]at q,ab.refl _ _⟩
 case round =>
  obtain⟨a,g,hk,hg,rfl,rfl,B,F,A⟩:=hrel;have m:=(h.Vb y).Vb A;have v:jT wr U (f8 w b):=(R.view).Vb A;have ai:=oy w b a
  by_cases f:a<w.length
  ·have z:Hid _:=QO w (f8 w b) b a f
   have al:=L.syms a f;have t:=(m.Vn.syms a w[a] (QP f)).view
   cases hh:g7 w a b
   ·have r:Hid (dG w b (a+1)=dG w b a):=tX w b a (by rw[z.out,hh];rfl)
    clear z t v;go_wp2_with (first | (go_at_call 80;refine(eM N o w k _ (by exact m)).mono ?_;rintro e wc ⟨rfl,rfl⟩) | (go_at_call 187;refine(gF N o a b w k _ (by exact m) f).mono ?_;rintro e wd ⟨rfl,rfl⟩))
    go_roundg (w.length-(a+1))
    case measure=>omega
    case rel=>exact⟨a+1,g,by omega,rfl,by go_num,by rw[r.out],by rw[r.out];exact B,F,A⟩
   ·have Z:=fun(C:World) (v1:jT C (k (10+2*a)) w[a].U6) (v2:jT C U (f8 w b))=>u9 w[a] (k (10+2*a)) (k (11+2*a)) U (f8 w b) C v1 v2 (by omega) H
    have p:Hid _:=Z;clear Z
    cases K:pN w[a] (f8 w b)
    ·have r:Hid (dG w b (a+1)=dG w b a):=tX w b a (by rw[z.out,K];simp)
     rw[K]at p;clear z;go_wp2_with (first | (go_at_call 80;refine(eM N o w k _ (by exact m)).mono ?_;rintro e wc ⟨rfl,rfl⟩) | (go_at_call 187;refine(gF N o a b w k _ (by exact m) f).mono ?_;rintro e wd ⟨rfl,rfl⟩) | (go_at_call 97;refine(a9 N o a w k _ (by exact m) f).mono ?_;rintro e w3 ⟨rfl,c⟩) | (go_at_call 188;refine(p.out _ (by exact t.Vb c) (by exact v.Vb c)).mono ?_;rintro e w4 ⟨rfl,l⟩))
     go_roundg (w.length-(a+1))
     case measure=>omega
     case rel=>exact⟨a+1,g,by omega,rfl,by go_num,by rw[r.out],by rw[r.out];exact B.Vg (fun x q=>(c.trans l).block x (B.lt q) (by simp)),F,(A.trans c).trans l⟩
    ·have r:Hid (dG w b (a+1)=dG w b a++[a]):=wn w b a (by rw[z.out,hh,K];rfl)
     rw[K]at p;clear z;go_wp2_with (first | (go_at_call 80;refine(eM N o w k _ (by exact m)).mono ?_;rintro e wc ⟨rfl,rfl⟩) | (go_at_call 187;refine(gF N o a b w k _ (by exact m) f).mono ?_;rintro e wd ⟨rfl,rfl⟩) | (go_at_call 97;refine(a9 N o a w k _ (by exact m) f).mono ?_;rintro e w3 ⟨rfl,c⟩) | (go_at_call 188;refine(p.out _ (by exact t.Vb c) (by exact v.Vb c)).mono ?_;rintro e w4 ⟨rfl,l⟩;have G:=B.Vg (fun x q=>((c.trans l).alloc (.cells #[.int .i64 a] 3)).block x (B.lt q) (by simp))) | (at_builtin;refine aM _ rfl (.tmp 28) (.tmp 30) 26 rfl i0 (.int .i64 0) 8 g (bB (dG w b a)) underlying26 hi V W X rfl Rc rfl (by exact G) ⟨_,0,none⟩ 1 1 [.int .i64 a] rfl rfl ?d1 ?d2 Rc ?d3 ?d4 ?_))
     case d1=>intro j u J;match j,J with | 0,J=>simp at J;subst J;simp[Addr.add]
     case d2=>intro u hu;simp at hu;subst hu;rfl
     case d3=>simp only[bB];unfold maxLen;omega
     case d4=>simp only[bB];omega
     intro M D w5 I s d;rw[mv (dG w b a) a,<-r.out]at I;have E:=((A.trans c).trans l).alloc (.cells #[.int .i64 a] 3);have Q:=E.grown s F
     have ag:Y.heap.size<=M:=by
      rcases d with e | e
      ·exact F M e
      ·have:=E.size;simp at e this;omega
     have O:Hid ((bB (dG w b a)).n+1=(dG w b (a+1)).length):=by show _=_;rw[r.out];simp[bB]
     rw[O.out];clear s d G;go_wp2
     go_roundg (w.length-(a+1))
     case measure=>omega
     case rel=>exact⟨a+1,⟨some ⟨M,0,none⟩,D⟩,by omega,rfl,by go_num,rfl,I,by intro x q;simp[Hd.blk]at q;omega,Q⟩
  ·have e:a=w.length:=by omega
   subst e;have P:=y.trans A;have S:=y.size;go_wp2_with (go_at_call 80;refine(eM N o w k _ (by exact m)).mono ?_;rintro e w3 ⟨rfl,rfl⟩);go_ret;exact⟨g,rfl,B,fun x q=>Q3 S (F x q),P⟩
theorem Oz:(prog.info? 26).map (fun i=>(i.zero,i.size,i.bytes))=some (some (.slice none 0 0),1,24):=by kernel_rfl
theorem Ak(h:l<f):(madeCells #[yt] f)[l]?=some yt:=by
 simp[madeCells,h,Nat.mod_one]
def sM(l:List St)(n:Nat):Bool:=match l[n]? with | some s=>qP s.kind | none=>false
theorem z9(h:l<w.length):sM w l=qP w[l].kind:=by
 unfold sM;rw[QP h]
def lO(l:List St)(k n:Nat):List Nat:=if n<k/\sM l n=true then aK l n else []
structure gW(w:World)(g:Nat)(l:List St)(k:Nat)(K:Nat->Hd):Prop where
 arr:∃arr,w.heap[g]?=some (.cells arr 26 (0,0))/\arr.size=l.length/\∀n,n<l.length->arr[n]?=some (.slice (K n).ao (lO l k n).length (K n).cap)
 own:∀n,n<l.length->aw w (K n) (bB (lO l k n))
 off:∀n,(K n).blk≠some g
theorem gW.kept(h:gW n H M i d)(q:ab yf n a)(m:H∉yf)(l:∀b x,(d b).blk=some x->x∉yf):gW a H M i d:=by
 obtain⟨c,g,j,k⟩:=h.arr;exact⟨⟨c,q.get g m,j,k⟩,fun b e=>(h.own b e).Vg (fun x f=>q.block x ((h.own b e).lt f) (l b x f)),h.off⟩
theorem gW.Vb(h:gW n H M i d)(q:ab [] n a):gW a H M i d:=h.kept q (by simp) (by simp)
theorem gW.cell(h:gW n H M i d)(a:Nat)(f:a<M.length):n.cell? ⟨H,a,none⟩=some (.slice (d a).ao (lO M i a).length (d a).cap):=by
 obtain⟨b,c,g,e⟩:=h.arr;rw[aa c];exact e a f
theorem gW.free(h:gW n H M i d)(a:Nat):n.frozen? ⟨H,a,none⟩=false:=by
 obtain⟨b,c,e,f⟩:=h.arr;exact am c a
theorem gW.lt{k:Nat}(h:gW n H M k d):H<n.heap.size:=by
 obtain⟨a,b,c,e⟩:=h.arr;exact ae b
theorem gW.skip(h:gW n H M i d)(f:sM M i=false):gW n H M (i+1) d:=by
 have e:∀a,lO M (i+1) a=lO M i a:=by
  intro a;unfold lO
  by_cases g:a=i
  ·subst g;rw[QT (by rw[f];simp),QT (by rw[f];simp)]
  ·have:(a<i+1/\sM M a=true) ↔ (a<i/\sM M a=true):=and_congr_left (fun _=>by omega)
   simp only[this]
 obtain⟨b,j,k,l⟩:=h.arr;exact⟨⟨b,j,k,fun a c=>by rw[e];exact l a c⟩,fun a c=>by rw[e];exact h.own a c,h.off⟩
theorem gW.store{k:Nat}(h:gW n H M k d)(r:sM M k=true)(s:k<M.length)(c:Hd)(o:aw n c (bB (aK M k)))(l:c.blk≠some H) :
  gW (n.setCell ⟨H,k,none⟩ (.slice c.ao (aK M k).length c.cap)) H M (k+1) (g9 d k c):=by
 have e:∀a,a≠k->lO M (k+1) a=lO M k a:=by
  intro a b;unfold lO;have:(a<k+1/\sM M a=true) ↔ (a<k/\sM M a=true):=and_congr_left (fun _=>by omega);simp only[this]
 have i:lO M (k+1) k=aK M k:=by unfold lO;rw[QW ⟨by omega,r⟩]
 obtain⟨m,p,j,q⟩:=h.arr;refine⟨⟨_,ah p _ _,by simpa using j,?_⟩,?_,?_⟩
 ·intro a f
  by_cases b:a=k
  ·subst b
   rw[dh,i];simp[j,f]
  ·rw[bU _ _ _ _ b,e a b]
   rw[Uk (by omega)];exact q a f
 ·intro a f
  by_cases b:a=k
  ·subst b
   rw[dh,i];exact o.Vg (fun x g=>Q4 _ _ _ _ (by rintro rfl;exact l g))
  ·rw[bU _ _ _ _ b,e a b]
   exact(h.own a f).Vg (fun x g=>Q4 _ _ _ _ (by rintro rfl;exact h.off a g))
 ·intro a
  by_cases b:a=k
  ·subst b;rw[dh];exact l
  ·rw[bU _ _ _ _ b];exact h.off a
theorem rY(h:dF T o b w k)(Q:iH w) :
  Calls prog 113 #[.pointer (some ⟨o,b,none⟩)] T fun e R=>∃(g:Nat) (K:Nat->Hd),e=.returned (.slice (some ⟨g,0,none⟩) w.length w.length)/\gW R g w w.length K/\T.heap.size<=g/\(∀n x,(K n).blk=some x->T.heap.size<=x)/\ab [] T R:=by
 obtain⟨Y,V,H,I,J⟩:=Re Oz;have N:=Q.len;have S:=h.lt;have O:=fun T=>dB (P:=prog) T 181 26 Y _ underlying181 V H w.length 1 I (by rw[J];omega) (by omega)
 obtain⟨y,l⟩:∃y,y=madeCells (Value.slice none 0 0).cells (w.length*1):=⟨_,rfl⟩
 rw[<-l]at O
 have L:Hid (gW (T.alloc (.cells y 26)) T.heap.size w 0 mE):=by
  refine⟨⟨y,QS _ _,by rw[l,Su];omega,?_⟩,?_,fun n e=>by simp[mE,Hd.blk]at e⟩
  ·intro n W
   have e:lO w 0 n=[]:=by unfold lO;rw[QT (by omega)]
   rw[e,l];exact Ak _ _ _ (by omega)
  ·intro n W
   have e:lO w 0 n=[]:=by unfold lO;rw[QT (by omega)]
   rw[e];exact QZ _ _ _ _
 clear l;go_enter func113,ntmps113;go_wp2_with (go_at_call 80;refine(eM o b w k _ (by exact h)).mono ?_;rintro e wc ⟨rfl,G⟩;rw[G])
 go_loopg [4] w.length (fun gk i wr=>∃(a:Nat) (K:Nat->Hd),a<=w.length/\gk=w.length-a/\i=.int .i64 a/\gW wr T.heap.size w a K/\(∀n x,(K n).blk=some x->T.heap.size<=x)/\ab [] T wr)
 case atStart=>exact⟨0,mE,by omega,by omega,rfl,L.out,fun n x q=>by simp[mE,Hd.blk]at q,(ab.refl _ _).alloc _⟩
 case round =>
  obtain⟨a,K,hk,hg,rfl,u,D,r⟩:=hrel;have F:=h.Vb r;clear L O
  by_cases d:a<w.length
  ·have z:Hid _:=z9 w a d
   cases M:qP w[a].kind
   ·have B:Hid (gW wr T.heap.size w (a+1) K):=u.skip (by rw[z.out,M])
    clear z;go_wp2_with (first | (go_at_call 97;refine(a9 o b a w k _ (by exact F) d).mono ?_;rintro e Z ⟨rfl,f⟩;unfold ee) | (go_at_call 160;refine(dc w[a].kind _ _ _ _ _ _ _ _).mono ?_;rintro e w4 ⟨rfl,j⟩))
    go_roundg (w.length-(a+1))
    case measure=>omega
    case rel=>exact⟨a+1,K,by omega,rfl,by go_num,(B.out.Vb f).Vb j,D,(r.trans f).trans j⟩
   ·go_wp2_with (first | (go_at_call 97;refine(a9 o b a w k _ (by exact F) d).mono ?_;rintro e Z ⟨rfl,f⟩;unfold ee) | (go_at_call 160;refine(dc w[a].kind _ _ _ _ _ _ _ _).mono ?_;rintro e w4 ⟨rfl,j⟩))
    have c:=f.trans j;refine(mA o b a w k _ (F.Vb c) d Q).mono ?_;rintro e w5 ⟨v,rfl,s,p,t⟩;have m:=(u.Vb c).Vb t;have U:=(u.Vb c).lt;have E:v.blk≠some T.heap.size:=fun e=>by have:=p _ e;omega
    have B:Hid _:=(m.store (by rw[z.out,M]) d v s E);have C:=(r.trans c).trans t;have X:=(r.trans c).size
    have A:Hid (∀n x,(g9 K a v n).blk=some x->T.heap.size<=x):=by
     intro n x q
     by_cases e:n=a
     ·subst e;rw[dh]at q;have:=p x q;omega
     ·rw[bU _ _ _ _ e]at q;exact D n x q
    have c1:=m.cell a d;have hf:=m.free;clear p s;go_wp2
    go_roundg (w.length-(a+1))
    case measure=>omega
    case rel=>exact⟨a+1,g9 K a v,by omega,rfl,by go_num,B.out,A.out,C.setCell (QV (QR _)) _⟩
  ·have e:a=w.length:=by omega
   subst e;go_wp2;go_ret;exact⟨T.heap.size,K,rfl,u,QR _,D,r⟩
def pu(vs:List ByteArray)(x:ByteArray):Option Nat:=(List.range vs.length).find? (fun i=>(vs.getD i ⟨#[]⟩).toList==x.toList)
def si(l:List Bool):List Value:=l.map Value.bool
def pU(l:List Bool):dN:=⟨4,1,l.length,si l⟩
structure kQ(w:World)(tb:Nat)(vs:List ByteArray)(ms:List Bool)(hv hm:Hd):Prop where
 blk:w.heap[tb]?=some (.cells #[.slice hv.ao vs.length hv.cap,.slice hm.ao ms.length hm.cap] 327 (0,0))
 vars:aw w hv (aB vs)
 marks:aw w hm (pU ms)
 o1:hv.blk≠some tb
 o2:hm.blk≠some tb
 o3:hv.blk=none∨hv.blk≠hm.blk
theorem kQ.cells(h:kQ n H y9 y8 z6 y7):n.cell? ⟨H,0,none⟩=some (.slice z6.ao y9.length z6.cap)/\n.cell? ⟨H,1,none⟩=some (.slice y7.ao y8.length y7.cap):=by
 refine⟨?_,?_⟩ <;> (rw[aa h.blk];rfl)
theorem kQ.lt(h:kQ n H y9 y8 z6 y7):H<n.heap.size:=ae h.blk
theorem kQ.kept(h:kQ n H y9 y8 z6 y7)(k:ab yf n a)(d:H∉yf)(c:∀x,z6.blk=some x∨y7.blk=some x->x∉yf):kQ a H y9 y8 z6 y7 :=
 ⟨k.get h.blk d,h.vars.Vg (fun x b=>k.block x (h.vars.lt b) (c x (Q1 b))),h.marks.Vg (fun x b=>k.block x (h.marks.lt b) (c x (QV b))),h.o1,h.o2,h.o3⟩
theorem kQ.Vb(h:kQ n H y9 y8 z6 y7)(k:ab [] n a):kQ a H y9 y8 z6 y7:=h.kept k (by simp) (by simp)
set_option maxRecDepth 512
theorem sZ(h:kQ T b y z4 y5 zt)(A:y.length<=1073741824) :
  Calls prog 260 #[.pointer (some ⟨b,0,none⟩),.string L] T fun e t=>e=.returned (.int .i64 (nB (pu y L)))/\t=T:=by
 obtain⟨o,v⟩:=h.cells;go_enter func260,ntmps260;go_wp2
 go_loopg [5] y.length (fun g i wr=>∃k:Nat,k<=y.length/\g=y.length-k/\i=.int .i64 k/\Hid (∀i,i<k->((y.getD i ⟨#[]⟩).toList==L.toList)=false)/\wr=T)
 case atStart=>exact⟨0,by omega,by omega,rfl,fun i m=>by omega,rfl⟩
 case round =>
  obtain⟨k,z,x,rfl,a,rfl⟩:=hrel
  by_cases c:k<y.length
  ·rcases h.vars.Vm with ⟨_,r,_⟩ | ⟨g,p,j,-,q,-⟩
   ·have:y.length=0:=r
    omega
   ·have w:=h.vars.cell j k (.string y[k]) (tC y k c)
    rw[j]at o;have d:Hid _:=qm y k c;have s:y.length<=y5.cap:=q;generalize y[k]=u at *
    cases l:(u.toList==L.toList)
    ·have n:Hid (∀i,i<k+1->((y.getD i ⟨#[]⟩).toList==L.toList)=false):=by
      intro i m
      by_cases e:i=k
      ·subst e;rw[d.out];exact l
      ·exact a.out i (by omega)
     clear d h;go_wp2
     go_roundg (y.length-(k+1))
     case measure=>omega
     case rel=>exact⟨k+1,by omega,rfl,by go_num,n,rfl⟩
    ·have f:Hid (pu y L=some k):=nV c (by rw[d.out];exact l) a.out
     clear d h;go_wp2;go_ret;exact⟨QN (by rw[f.out];rfl),rfl⟩
  ·have f:Hid (pu y L=none):=mI (fun i m=>a.out i (by omega))
   clear h;go_wp2;go_ret;exact⟨QN (by rw[f.out];rfl),rfl⟩
def bD(vs ws:List ByteArray):List Nat:=ws.filterMap (pu vs)
theorem wN(h:f<x.length)(a:pu y x[f]=some l):bD y (x.take (f+1))=bD y (x.take f)++[l]:=by
 unfold bD;rw[jo x f h,SU];simp[a]
theorem wM(h:l<x.length)(a:pu y x[l]=none):bD y (x.take (l+1))=bD y (x.take l):=by
 unfold bD;rw[jo x l h,SU];simp[a]
theorem qT:(bD x yv).length<=yv.length:=To _ _
set_option maxRecDepth 100000
theorem xN(h:kQ T b y z4 ys y5)(hl:y.length<=1073741824)(J:jT T zt x)(L:x.length<=1000000) :
  Calls prog 238 #[.pointer (some ⟨b,0,none⟩),.slice zt.ao x.length zt.cap] T fun e X=>∃d:Hd,e=.returned (.slice d.ao (bD y x).length d.cap)/\aw X d (bB (bD y x))/\(∀f,d.blk=some f->T.heap.size<=f)/\ab [] T X:=by
 obtain⟨i0,hi,M,N,O⟩:=Re yH;obtain⟨ao,Y⟩:=zt
 rcases J with rfl | ⟨g,D,Z,t,S,e2,U,e4,e5⟩
 ·clear L
  go_enter func238,ntmps238;go_wp2;refine SZ 1 ?_;rw[Tr];go_wp2;go_ret;exact⟨⟨none,0⟩,rfl,QZ _ _ _ _,by intro f r;simp[Hd.blk]at r,ab.refl _ _⟩
 simp only at S;subst S;go_enter func238,ntmps238;go_wp2
 go_loopg [5,6] x.length (fun gk sv i wr=>∃(k:Nat) (d:Hd),k<=x.length/\gk=x.length-k/\i=.int .i64 k/\sv=.slice d.ao (bD y (x.take k)).length d.cap/\aw wr d (bB (bD y (x.take k)))/\(∀f,d.blk=some f->T.heap.size<=f)/\ab [] T wr)
 case atStart=>exact⟨0,⟨none,0⟩,by omega,by omega,rfl,rfl,QZ _ _ _ _,by intro f r;simp[Hd.blk]at r,ab.refl _ _⟩
 case round =>
  obtain⟨k,d,hk,hg,rfl,rfl,A,E,w⟩:=hrel;have hr:=h.Vb w;have ad:=qT y (x.take k);have V:(x.take k).length<=k:=by simp;omega
  by_cases q:k<x.length
  ·have c2:wr.cell? ⟨g,D+k,none⟩=some (.string x[k]):=(aa (w.get e2 (by simp)) (D+k)).trans (U k x[k] (QP q))
   ·skip
    have R:=fun p=>wN y x k p q
    have Q:=wM y x k q;have o:Hid _:=R;have m:Hid _:=Q;have P:=sZ b y z4 ys y5 x[k] wr hr hl;have c:Hid _:=P;clear R Q P U;generalize x[k]=af at *
    rcases hp:pu y af with _ | p
    ·have s:Hid _:=m.out hp
     rw[hp]at c;simp only[nB]at c;clear o m;go_wp2_with (go_at_call 260;refine QU c.out ?_;rintro e w3 ⟨rfl,rfl⟩)
     go_roundg (x.length-(k+1))
     case measure=>omega
     case rel=>exact⟨k+1,d,by omega,rfl,by go_num,by rw[s.out],by rw[s.out];exact A,E,w⟩
    ·have s:Hid _:=o.out p hp
     rw[hp]at c;simp only[nB]at c;have B:=A.Vg (fun f r=>((ab.refl [] wr).alloc (.cells #[.int .i64 p] 3)).block f (A.lt r) (by simp));clear o m;go_wp2_with (first | (go_at_call 260;refine QU c.out ?_;rintro e w3 ⟨rfl,K⟩;rw[K]) | (at_builtin;refine aM _ rfl (.tmp 22) (.tmp 24) 26 rfl i0 (.int .i64 0) 8 d (bB (bD y (x.take k))) underlying26 hi M N O rfl Rc rfl (by exact B) ⟨_,0,none⟩ 1 1 [.int .i64 p] rfl rfl ?d1 ?d2 Rc ?d3 ?d4 ?_))
     case d1=>intro j u F;match j,F with | 0,F=>simp at F;subst F;simp[Addr.add]
     case d2=>intro u W;simp at W;subst W;rfl
     case d3=>simp only[bB];unfold maxLen;omega
     case d4=>simp only[bB];omega
     intro G v w5 C l a;rw[mv (bD y (x.take k)) p,<-s.out]at C;have z:=w.alloc (.cells #[.int .i64 p] 3);have I:=z.grown l E
     have ac:T.heap.size<=G:=by
      rcases a with e | e
      ·exact E G e
      ·have:=z.size;simp at e this;omega
     have H:Hid ((bB (bD y (x.take k))).n+1=(bD y (x.take (k+1))).length):=by show _=_;rw[s.out];simp[bB]
     rw[H.out];clear l a B;go_wp2
     go_roundg (x.length-(k+1))
     case measure=>omega
     case rel=>exact⟨k+1,⟨some ⟨G,0,none⟩,v⟩,by omega,rfl,by go_num,rfl,C,by intro f r;simp[Hd.blk]at r;omega,I⟩
  ·have e:k=x.length:=by omega
   subst e;rw[RK]at A ⊢;go_wp2;go_ret;exact⟨d,rfl,A,E,w⟩
def kI(side mi:Nat)(mem:List Nat)(ms:List Bool):List Bool:=mem.foldl (fun ms mj=>ms.set (mi*side+mj) true) ms
def lS(side:Nat)(mem:List Nat)(ms:List Bool):List Bool:=mem.foldl (fun ms mi=>kI side mi mem ms) ms
def jB(side:Nat)(mem:List Nat)(ms:List Bool)(i j:Nat):List Bool:=kI side (mem.getD i 0) (mem.take j) ((mem.take i).foldl (fun ms mi=>kI side mi mem ms) ms)
theorem pO(b:List Nat)(c:List Bool):(kI f l b c).length=c.length:=by
 unfold kI
 induction b generalizing c with
 | nil=>rfl
 | cons a r d=>rw[TA,d];simp
theorem sU(r:List Nat)(b:List Bool):(r.foldl (fun b d=>kI f d y6 b) b).length=b.length:=by
 induction r generalizing b with
 | nil=>rfl
 | cons a r c=>rw[TA,c,pO]
theorem jV:(jB b S yd f l).length=yd.length:=by
 unfold jB;rw[pO,sU]
theorem Cs(a:l<S.length):jB b S yd f (l+1)=(jB b S yd f l).set (S.getD f 0*b+S[l]) true:=by
 unfold jB kI;rw[jo S l a,Sw];rfl
theorem EB(a:l<S.length):jB b S yd l S.length=jB b S yd (l+1) 0:=by
 have e:S.getD l 0=S[l]:=by rw[QQ,QP a];rfl
 unfold jB;rw[RK,jo S l a,Sw,e];rfl
theorem EA:jB b S yd S.length 0=lS b S yd:=by
 unfold jB lS;rw[RK];rfl
theorem yl:(si yd).length=yd.length*1:=by simp[si]
theorem kQ.mark(h:kQ n H y9 y8 z6 y7)(d:Nat)(e:y7.ao=some ⟨d,0,none⟩)(i:Nat)(s:i<y8.length) :
  kQ (n.setCell ⟨d,i,none⟩ (.bool true)) H y9 (y8.set i true) z6 y7:=by
 have k:y7.blk=some d:=by unfold Hd.blk;rw[e];rfl
 refine⟨?_,?_,?_,h.o1,h.o2,h.o3⟩
 ·rw[Q4 _ _ _ _ (by rintro rfl;exact h.o2 k),h.blk];simp
 ·refine h.vars.Vg (fun x j=>Q4 _ _ _ _ ?_)
  rintro rfl
  rcases h.o3 with a | a
  ·rw[a]at j;cases j
  ·exact a (j.trans k.symm)
 ·rcases h.marks.Vm with ⟨_,r,_⟩ | ⟨g,c,b,l,m,o,p,q⟩
  ·have:y8.length=0:=r
   omega
  ·have:g=d:=by rw[e]at b;injection b with b;injection b with b;exact b.symm
   subst this;refine⟨by simp only[pU];rw[yl],QV ⟨g,y7.cap,c.setIfInBounds i (.bool true),?_,Ro _,ah l _ _,?_,o,?_,?_⟩⟩
   ·simp[pU,e]
   ·simpa [pU] using m
   ·simpa [pU] using p
   ·have f:c.toList.take (y8.length*1)=si y8:=q
    simp only[pU,List.length_set,Array.toList_setIfInBounds,List.take_set,f];simp[si,List.map_set]
theorem jP(h:l<y6.length):(jX y6)[l]?=some (.int .i64 y6[l]):=by simp[jX,h]
theorem Cp(h:kQ T b y z4 ys y5)(L:z4.length=y.length*y.length)(N:y.length<=10000)(C:aw T zt (bB S))(M:S.length<=1000000)(o:∀i (hi:i<S.length),S[i]<y.length)(r:∀x,zt.blk=some x->y5.blk≠some x) :
  Calls prog 237 #[.pointer (some ⟨b,0,none⟩),.slice zt.ao S.length zt.cap] T fun e Y=>e=.returned (.tuple #[])/\kQ Y b y (lS y.length S z4) ys y5/\eK (fun k=>y5.blk=some k) T Y:=by
 obtain⟨ao,f⟩:=zt
 rcases C.Vm with ⟨e0,A,_⟩ | ⟨g,ac,R,e2,U,F,-⟩
 ·have v:S.length=0:=A
  have K:S=[]:=Rk v;subst K;clear C A v e0 M o r;go_enter func237,ntmps237;go_wp2;refine SZ 1 ?_;rw[Tr];go_wp2;go_end0;exact⟨rfl,h,eK.refl _ _⟩
 simp only at R U F;have af:S.length<=f:=U;have ad:f<=9223372036854775807:=by unfold maxLen at F;exact F
 subst R;have al:y5.blk≠some g:=r g rfl;go_enter func237,ntmps237;go_wp2
 go_loopg [4] S.length (fun gk i wr=>∃k:Nat,k<=S.length/\gk=S.length-k/\i=.int .i64 k/\kQ wr b y (jB y.length S z4 k 0) ys y5/\eK (fun k=>y5.blk=some k) T wr)
 case atStart=>exact⟨0,by omega,by omega,rfl,h,eK.refl _ _⟩
 case round =>
  obtain⟨k,hk,hg,rfl,B,I⟩:=hrel
  by_cases d:k<S.length
  ·have Z:Hid _:=EB y.length S z4 k d
   go_wp2_with fail
   go_loopg [5] S.length (fun G i2 w=>∃j:Nat,j<=S.length/\G=S.length-j/\i2=.int .i64 j/\kQ w b y (jB y.length S z4 k j) ys y5/\eK (fun k=>y5.blk=some k) T w)
   case atStart=>exact⟨0,by omega,by omega,rfl,B,I⟩
   case round =>
    obtain⟨j,hj,ai,rfl,a,m⟩:=hrel;clear B I
    by_cases p:j<S.length
    ·have O:=o k d
     have ar:=o j p;have n:aw wr ⟨some ⟨g,0,none⟩,f⟩ (bB S):=C.Vg (fun x D=>m.block x (C.lt D) (fun e=>r x D e));have p1:=n.cell rfl k (.int .i64 S[k]) (jP S k d);have p2:=n.cell rfl j (.int .i64 S[j]) (jP S j p);obtain⟨c0,P⟩:=a.cells;rw[jV]at P;have E:=Cs y.length S z4 k j p;have V:S.getD k 0=S[k]:=by rw[QQ,QP d];rfl
     rw[V]at E
     have c:S[k]*y.length+S[j]<z4.length:=by
      rw[L];have:(S[k]+1)*y.length<=y.length*y.length:=Ur _ O;rw[Uc]at this;omega
     have J:S[k]*y.length<=10000*10000:=SL (by omega) N;have s:Hid _:=(fun H e=>a.mark H e (S[k]*y.length+S[j]) (by rw[jV];exact c));have t:Hid _:=E
     rcases a.marks.Vm with ⟨_,A,_⟩ | ⟨H,Q,z,l,u,-⟩
     ·have:(jB y.length S z4 k j).length=0:=A
      rw[jV]at this;omega
     ·have W:z4.length<=y5.cap:=by have:(jB y.length S z4 k j).length<=y5.cap:=u;rw[jV]at this;exact this
      have ag:=am l;have an:=ae l;have p3:=a.marks.cell z (S[k]*y.length+S[j]) (.bool ((jB y.length S z4 k j)[S[k]*y.length+S[j]]'(by rw[jV];exact c))) (by simp[pU,si,jV,c]);rw[z]at P;clear E l u n;generalize (jB y.length S z4 k j)[S[k]*y.length+S[j]]'(by rw[jV];exact c)=old at *;generalize D:S[k]=x at *;generalize hy:S[j]=ax at *;obtain⟨q,X⟩:∃q,x*y.length=q:=⟨_,rfl⟩
      have ap:(x:Int)*(y.length:Int)=(q:Int):=by rw[<-X];simp
      rw[X]at c J p3 s t;clear D hy V;go_wp2_with fail
      go_quiet (fail)
      go_wp2
      go_roundg (S.length-(j+1))
      case measure=>omega
      case rel=>exact⟨j+1,by omega,rfl,by go_num,by rw[t.out];exact(s.out H z).Vb ((ab.refl [] _).drewN nq),(m.Vb ((ab.refl [] _).drewN nq)).setCell (Q1 (by unfold Hd.blk;rw[z];rfl)) _⟩
    ·have e:j=S.length:=by omega
     subst e;rw[Z.out]at a;go_wp2
     go_roundg (S.length-(k+1))
     case measure=>omega
     case rel=>exact⟨k+1,by omega,rfl,by go_num,a,m⟩
  ·have e:k=S.length:=by omega
   subst e;rw[EA]at B;go_wp2;go_end0;exact⟨rfl,B,I⟩
def eD(side:Nat)(ms:List Bool)(i j:Nat):Bool:=!(i==j)&&ms.getD (i*side+j) false
theorem zj(a:H<ya)(b:i<ya):H*ya+i<ya*ya:=by
 have:(H+1)*ya<=ya*ya:=Ur _ a;rw[Uc]at this;omega
set_option maxRecDepth 512
theorem qh(h:kQ T b y z4 y5 zt)(m:z4.length=y.length*y.length)(n:y.length<=10000)(z:g<y.length)(A:f<y.length) :
  Calls prog 215 #[.pointer (some ⟨b,0,none⟩),.int .i64 g,.int .i64 f] T fun e D=>e=.returned (.bool (eD y.length z4 g f))/\D=T:=by
 obtain⟨E,v⟩:=h.cells;have a:g*y.length+f<z4.length:=by rw[m];exact zj z A
 have l:g*y.length<=10000*10000:=SL (by omega) n
 rcases h.marks.Vm with ⟨_,w,_⟩ | ⟨F,p,s,k,d,-⟩
 ·have:z4.length=0:=w
  omega
 ·have t:z4.length<=zt.cap:=d
  have C:=h.marks.cell s (g*y.length+f) (.bool z4[g*y.length+f]) (by simp[pU,si,a]);have r:z4.getD (g*y.length+f) false=z4[g*y.length+f]:=by rw[QQ,QP a];rfl
  have i:Hid (eD y.length z4 g f=(!(g==f)&&z4[g*y.length+f])):=by show _=_;unfold eD;rw[r]
  rw[s]at v;generalize z4[g*y.length+f]=o at *;obtain⟨q,u⟩:∃q,g*y.length=q:=⟨_,rfl⟩
  have B:(g:Int)*(y.length:Int)=(q:Int):=by rw[<-u];simp
  rw[u]at a l C;clear r k d h
  by_cases c:g=f
  ·have x:((g:Int) != (f:Int))=false:=by simp[c]
   have j:Hid (eD y.length z4 g f=false):=by show _=_;rw[i.out];simp[c]
   clear i;go_enter func215,ntmps215;go_wp2;go_ret;exact⟨aD j.out.symm,rfl⟩
  ·have x:((g:Int) != (f:Int))=true:=by simp;omega
   have j:Hid (eD y.length z4 g f=o):=by show _=_;rw[i.out];simp[c]
   clear i;go_enter func215,ntmps215;go_wp2;go_ret;exact⟨aD j.out.symm,rfl⟩
def sA(l:List St)(a n:Nat):Bool:=match l[n]? with | some s=>(s.kind==1)&&g7 l n a | none=>false
theorem Nj(h:l<w.length):sA w f l=((w[l].kind==1)&&g7 w l f):=by
 unfold sA;rw[QP h]
def de(l:List St)(a:Nat)(vs:List ByteArray):Nat->List Bool
 | 0=>List.replicate (vs.length*vs.length) false
 | k+1=>if sA l a k=true then lS vs.length (bD vs (symsAt l k)) (de l a vs k) else de l a vs k
def fN(l:List St)(a:Nat)(vs:List ByteArray):List Bool:=de l a vs l.length
theorem ko(k:Nat):(de w l yv k).length=yv.length*yv.length:=by
 induction k with
 | zero=>simp[de]
 | succ k a =>
  rw[de]
  split
  ·unfold lS;rw[sU,a]
  ·exact a
theorem GB{x:ByteArray}(h:pu y9 x=some H):H<y9.length:=by
 have:=Rz h;simpa using this
theorem s9(h:l<(bD y x).length):(bD y x)[l]<y.length:=by
 have a:=Rb h;unfold bD at a;rw[UE]at a;obtain⟨c,_,b⟩:=a;exact GB b
theorem OU:(prog.info? 4).map (fun i=>(i.zero,i.size,i.bytes))=some (some (.bool false),1,1):=by kernel_rfl
theorem Co:madeCells #[yt] l=(List.replicate l yt).toArray:=by
 apply Array.ext
 ·rw[Su];simp
 ·intro i a b
  have h:i<l:=by rw[Su]at a;exact a
  have:=Ak yt l i h;rw[Array.getElem?_eq_getElem a]at this;simp at this ⊢;exact this
theorem ab.ofP(K:ab [] n a)(g:eK yr a yy)(c:∀k,yr k->n.heap.size<=k):ab [] n yy :=
 ⟨g.os.trans K.os,g.tape.trans K.tape,g.output.trans K.output,Q3 K.size g.size,fun k b _=>(g.block k (QX b K.size) (fun e=>by have:=c k e;omega)).trans (K.block k b (by simp))⟩
set_option maxRecDepth 100000
theorem DH(h:dF T N o w k)(ok:iH w)(hO:aw T zt (aB x))(J:x.length<=10000) :
  Calls prog 209 #[.pointer (some ⟨N,o,none⟩),.int .i64 b,.slice zt.ao x.length zt.cap] T fun e w'=>∃(tb:Nat) (t s:Hd),e=.returned (.pointer (some ⟨tb,0,none⟩))/\kQ w' tb x (fN w b x) t s/\T.heap.size<=tb/\(∀d,t.blk=some d∨s.blk=some d->T.heap.size<=d)/\ab [] T w':=by
 obtain⟨i0,hi,a1,Z,a2⟩:=Re js;obtain⟨i1,ap,aS,aT,a0⟩:=Re OU;have a3:=ok.len;have a5:=h.lt;obtain⟨q,hq⟩:∃q,x.length*x.length=q:=⟨_,rfl⟩
 have ba:(x.length:Int)*(x.length:Int)=(q:Int):=by rw[<-hq];simp
 have bc:q<=10000*10000:=by rw[<-hq];exact SL J J
 have m1:=fun T=>dB (P:=prog) T 61 9 i0 _ underlying61 hi a1 x.length 1 Z (by rw[a2];omega) (by omega)
 have m2:=fun T=>dB (P:=prog) T 134 4 i1 _ underlying134 ap aS q 1 aT (by rw[a0];omega) (by omega)
 obtain⟨z,l⟩:∃mc,mc=madeCells (Value.string ⟨#[]⟩).cells (x.length*1):=⟨_,rfl⟩
 obtain⟨p,m⟩:∃mc,mc=madeCells (Value.bool false).cells (q*1):=⟨_,rfl⟩
 have z1:z.size=x.length*1:=by rw[l,Su]
 have O:Hid (p=(si (de w b x 0)).toArray):=by
  show _=_
  rw[m,UZ,<-hq];have:(Value.bool false).cells=#[.bool false]:=rfl;rw[this,Co];simp[de,si]
 rw[<-l]at m1;rw[<-m]at m2;clear l m;have K2:ab [] T (T.alloc (.cells z 9)):=(ab.refl [] _).alloc _;have A:Hid ((prog.info? (aB x).e).map (·.size)=some (aB x).size):=by show _=_;simp[aB,hi,Z]
 obtain⟨g,R,D,W,ac⟩:=tP (P:=prog) (T.alloc (.cells z 9)) 61 61 3 T.heap.size x.length zt (aB x) z 9 underlying61 A.out (QS _ _) (hO.Vg (fun d u=>K2.block d (hO.lt u) (by simp))) z1 (lY _);simp only[aB]at R D;have B:g.heap.size=T.heap.size+1:=by rw[ac];simp
 have K3:ab [] T g:=((K2.mono (S':=[T.heap.size]) (by simp)).trans W).mono (by simp);obtain⟨W4,f⟩:∃W4,W4=(g.alloc (.cells p 4)).alloc (.cells #[.slice (some ⟨T.heap.size,0,none⟩) x.length x.length,.slice (some ⟨g.heap.size,0,none⟩) q q] 327):=⟨_,rfl⟩
 have K4:ab [] T W4:=by rw[f];exact(K3.alloc _).alloc _
 have G:Hid (q=(de w b x 0).length):=by show _=_;rw[ko,hq]
 have A4:kQ W4 (g.heap.size+1) x (de w b x 0) ⟨some ⟨T.heap.size,0,none⟩,x.length⟩ ⟨some ⟨g.heap.size,0,none⟩,q⟩:=by
  refine⟨?_,?_,?_,?_,?_,?_⟩
  ·rw[f,<-G.out]
   have:=QS (g.alloc (.cells p 4)) (.cells #[.slice (some ⟨T.heap.size,0,none⟩) x.length x.length,.slice (some ⟨g.heap.size,0,none⟩) q q] 327);simpa using this
  ·refine aw.made (r:=aB x) ?_ (C9 _) (by simp only[aB];unfold maxLen;omega)
   rw[f];exact(((ab.refl [] _).alloc _).alloc _).get D (by simp)
  ·have e:(⟨some ⟨g.heap.size,0,none⟩,q⟩:Hd)=⟨some ⟨g.heap.size,0,none⟩,(pU (de w b x 0)).n⟩:=by rw[G.out];rfl
   rw[e];refine aw.made (r:=pU (de w b x 0)) ?_ (yl _) (by simp only[pU];rw[<-G.out];unfold maxLen;omega);rw[f];have:=((ab.refl [] (g.alloc (.cells p 4))).alloc (.cells #[.slice (some ⟨T.heap.size,0,none⟩) x.length x.length,.slice (some ⟨g.heap.size,0,none⟩) q q] 327)).get (QS g (.cells p 4)) (by simp);rw[this,O.out];rfl
  ·intro e;simp[Hd.blk]at e;omega
  ·intro e;simp[Hd.blk]at e
  ·right;intro e;simp[Hd.blk]at e;omega
 have C:Hid _:=f.symm;rw[B]at C A4;clear f W D O K2 hO A z1 ac;obtain⟨t,F⟩:∃t:Hd,t=⟨some ⟨T.heap.size,0,none⟩,x.length⟩:=⟨_,rfl⟩
 obtain⟨s,E⟩:∃s:Hd,s=⟨some ⟨T.heap.size+1,0,none⟩,q⟩:=⟨_,rfl⟩
 rw[<-F,<-E]at A4
 have HB:Hid (∀d,t.blk=some d∨s.blk=some d->T.heap.size<=d/\d<=T.heap.size+1):=by
  intro d u;rw[F,E]at u;simp[Hd.blk]at u;omega
 clear F E;go_enter func209,ntmps209
 go_upto_region 4 with fail
 rw[C.out];clear C m1 m2 R K3 B;go_wp2
 go_loopg [9] w.length (fun gk i wr=>∃a:Nat,a<=w.length/\gk=w.length-a/\i=.int .i64 a/\kQ wr (T.heap.size+1+1) x (de w b x a) t s/\ab [] T wr)
 case atStart=>exact⟨0,by omega,by omega,rfl,A4,K4⟩
 case round =>
  obtain⟨a,hk,hg,rfl,S,U⟩:=hrel;have H:=h.Vb U;have a4:=S.lt;clear A4 K4
  by_cases c:a<w.length
  ·have K:Hid _:=Nj w b a c
   have bd:=ok.syms a c;have a6:=ok.pos a c;have SY:Hid (symsAt w a=w[a].U6):=od w a c;have L:Hid (de w b x (a+1)=if sA w b a=true then lS x.length (bD x (symsAt w a)) (de w b x a) else de w b x a):=rfl
   cases Y:(w[a].kind==1)
   ·have M:Hid (de w b x (a+1)=de w b x a):=by show _=_;rw[L.out,K.out,Y];simp
    clear K L SY;go_wp2_with (first | (go_at_call 80;refine(eM N o w k _ (by exact H)).mono ?_;rintro e wc ⟨rfl,rfl⟩) | (go_at_call 97;refine(a9 N o a w k _ (by exact H) c).mono ?_;rintro e w5 ⟨rfl,j⟩;unfold ee))
    go_roundg (w.length-(a+1))
    case measure=>omega
    case rel=>exact⟨a+1,by omega,rfl,by go_num,by rw[M.out];exact(S.Vb j).Vb ((ab.refl [] _).alloc _),(U.trans j).alloc _⟩
   ·go_wp2_with (first | (go_at_call 80;refine(eM N o w k _ (by exact H)).mono ?_;rintro e wc ⟨rfl,az⟩;rw[az]) | (go_at_call 97;refine(a9 N o a w k _ (by exact H) c).mono ?_;rintro e w5 ⟨rfl,j⟩;unfold ee))
    obtain⟨Q,y⟩:∃Q,Q=w5.alloc (.cells #[.int .i64 w[a].kind,.string w[a].label,.slice (k (10+2*a)).ao w[a].U6.length (k (10+2*a)).cap,.slice (k (11+2*a)).ao w[a].Vh.length (k (11+2*a)).cap,.string w[a].fin.file,.int .i64 w[a].fin.line,.int .i64 w[a].fin.col,.int .i64 w[a].til] 158):=⟨_,rfl⟩
    rw[<-y];have k6:ab [] wr Q:=by rw[y];exact j.alloc _
    have B6:Q.heap[w5.heap.size]?=some (.cells #[.int .i64 w[a].kind,.string w[a].label,.slice (k (10+2*a)).ao w[a].U6.length (k (10+2*a)).cap,.slice (k (11+2*a)).ao w[a].Vh.length (k (11+2*a)).cap,.string w[a].fin.file,.int .i64 w[a].fin.line,.int .i64 w[a].fin.col,.int .i64 w[a].til] 158 (0,0)):=by rw[y];exact QS _ _
    have q2:Q.cell? ⟨w5.heap.size,2,none⟩=some (.slice (k (10+2*a)).ao w[a].U6.length (k (10+2*a)).cap):=by rw[aa B6];rfl
    have I:=H.Vb k6;have v:=S.Vb k6;have V:=U.trans k6;have an:=(I.Vn.syms a w[a] (QP c)).view;clear y j k6 B6 H S U
    cases hh:g7 w a b
    ·have M:Hid (de w b x (a+1)=de w b x a):=by show _=_;rw[L.out,K.out,hh];simp
     clear K L SY;go_wp2_with (go_at_call 187;refine(gF N o a b w k _ (by exact I) c).mono ?_;rintro e w7 ⟨rfl,rfl⟩)
     go_roundg (w.length-(a+1))
     case measure=>omega
     case rel=>exact⟨a+1,by omega,rfl,by go_num,by rw[M.out];exact v,V⟩
    ·have M:Hid (de w b x (a+1)=lS x.length (bD x w[a].U6) (de w b x a)):=by show _=_;rw[L.out,K.out,Y,hh,SY.out];simp
     clear K L SY;go_wp2_with (first | (go_at_call 187;refine(gF N o a b w k _ (by exact I) c).mono ?_;rintro e w7 ⟨rfl,ax⟩;rw[ax]) | (go_at_call 238;refine(xN (T.heap.size+1+1) x (de w b x a) t s (k (10+2*a)) w[a].U6 _ (by exact v) (by omega) (by exact an) (by omega)).mono ?_;rintro e w8 ⟨hd,rfl,al,ai,X⟩));have ad:=v.Vb X;have a7:=qT x w[a].U6
     refine(Cp (T.heap.size+1+1) x (de w b x a) t s hd (bD x w[a].U6) _ ad (ko _ _ _ _) J al (by omega) (fun i hi=>s9 x w[a].U6 i hi) (by
      intro d u e;have h1:=ai d u;have h2:=HB.out d (QV e);have h3:=v.lt
      omega)).mono ?_
     rintro e w9 ⟨rfl,af,ar⟩;have ag:=(V.trans X).ofP ar (fun d u=>(HB.out d (QV u)).1);go_wp2
     go_roundg (w.length-(a+1))
     case measure=>omega
     case rel=>exact⟨a+1,by omega,rfl,by go_num,by rw[M.out];exact af,ag⟩
  ·have e:a=w.length:=by omega
   subst e;go_wp2_with (go_at_call 80;refine(eM N o w k _ (by exact H)).mono ?_;rintro e wc ⟨rfl,rfl⟩);go_ret;exact⟨T.heap.size+1+1,t,s,rfl,S,by omega,fun d u=>(HB.out d u).1,U⟩
structure a8(w:World)(b t:Nat)(cs:List Value)(rows:Nat->dN)(H:Nat->Hd):Prop where
 blk:w.heap[b]?=some (.cells cs.toArray t (0,0))
 own:∀i,aw w (H i) (rows i)
 apart:∀i j,i≠j->(H i).blk=none∨(H i).blk≠(H j).blk
 off:∀i,(H i).blk≠some b
theorem a8.lt(h:a8 n H i z5 z7 d):H<n.heap.size:=ae h.blk
theorem a8.inlt(h:a8 n H i z5 z7 d)(b:f9 d ya):ya<n.heap.size:=by
 obtain⟨c,a⟩:=b;exact(h.own c).lt a
theorem a8.free(h:a8 n H i z5 z7 d)(a:Nat):n.frozen? ⟨H,a,none⟩=false:=am h.blk a
theorem a8.cell(h:a8 n H i z5 z7 d)(i:Nat):n.cell? ⟨H,i,none⟩=z5[i]?:=by rw[aa h.blk];simp
theorem a8.keptP(h:a8 n H i z5 z7 d)(e:eK yr n a)(f:¬yr H)(g:∀k,f9 d k->¬yr k):a8 a H i z5 z7 d :=
 ⟨e.get h.blk f,fun c=>(h.own c).Vg (fun k b=>e.block k ((h.own c).lt b) (g k ⟨c,b⟩)),h.apart,h.off⟩
theorem a8.kept(h:a8 n H i z5 z7 d)(c:ab yf n a)(b:H∉yf)(f:∀k,f9 d k->k∉yf):a8 a H i z5 z7 d :=
 h.keptP (c.toP (P:=(·∈yf)) (fun _ e _=>e)) b f
theorem a8.Vb(h:a8 n H i z5 z7 d)(b:ab [] n a):a8 a H i z5 z7 d:=h.kept b (by simp) (by simp)
theorem a8.put{rows':Nat->dN}(h:a8 n H i z5 z7 d)(c f:Nat)(r:Hd)(E:aw a r (rows' f))(t:n.grownBy a (d f).blk)(b:r.blk=none∨r.blk=(d f).blk∨∃g,r.blk=some g/\n.heap.size<=g)(x:∀j,j≠f->rows' j=z7 j)(u:Value) :
  a8 (a.setCell ⟨H,c,none⟩ u) H i (z5.set c u) rows' (g9 d f r)/\aA H n d (a.setCell ⟨H,c,none⟩ u) (g9 d f r):=by
 have D:=h.lt;have z:a.heap[H]?=some (.cells z5.toArray i (0,0)):=(t.block H D (fun e=>h.off f e.symm)).trans h.blk
 have s:∀j,(g9 d f r j).blk≠some H:=by
  intro j
  by_cases e:j=f
  ·subst e;rw[dh];intro v
   rcases b with b | b | ⟨g,b,o⟩
   ·rw[b]at v;cases v
   ·exact h.off j (b ▸ v)
   ·rw[b]at v;cases v;omega
  ·rw[bU _ _ _ _ e];exact h.off j
 refine⟨⟨?_,?_,?_,s⟩,⟨t.os,t.tape,t.output,by have:=t.size;simp[World.setCell];omega,?_⟩,?_⟩
 ·rw[ah z,Ru]
 ·intro j
  have q:aw a (g9 d f r j) (rows' j):=by
   by_cases e:j=f
   ·subst e;rw[dh];exact E
   ·rw[bU _ _ _ _ e,x j e]
    refine(h.own j).Vg (fun k m=>t.block k ((h.own j).lt m) ?_);intro w
    rcases h.apart j f e with y | y
    ·rw[y]at m;cases m
    ·exact y (m.trans w)
  refine q.Vg (fun k m=>Q4 _ _ _ _ ?_);rintro rfl;exact s j m
 ·intro j l p
  by_cases e:j=f
  ·subst e
   rw[dh,bU _ _ _ _ (fun e=>p e.symm)]
   rcases b with b | b | ⟨g,b,o⟩
   ·exact Q1 b
   ·rw[b];exact h.apart j l p
   ·right;rw[b];intro w;have:=(h.own l).lt w.symm;omega
  ·rw[bU _ _ _ _ e]
   by_cases A:l=f
   ·subst A
    rw[dh]
    rcases b with b | b | ⟨g,b,o⟩
    ·rw[b];cases (d j).blk <;> simp
    ·rw[b];exact h.apart j l p
    ·cases v:(d j).blk with
     | none=>exact Q1 rfl
     | some k=>right;rw[b];intro w;cases w;have:=(h.own j).lt v;omega
   ·rw[bU _ _ _ _ A];exact h.apart j l p
 ·intro k m C
  rw[Q4 _ _ _ _ (fun e=>C (Q1 e))];exact t.block k m (fun e=>C (QV ⟨f,e.symm⟩))
 ·intro k m
  obtain⟨j,e⟩:=m
  by_cases B:j=f
  ·subst B
   rw[dh]at e
   rcases b with b | b | ⟨g,b,o⟩
   ·rw[b]at e;cases e
   ·exact Q1 ⟨j,b ▸ e⟩
   ·rw[b]at e;cases e;exact QV o
  ·rw[bU _ _ _ _ B]at e
   exact Q1 ⟨j,e⟩
theorem a8.set(h:a8 n H i z5 z7 d)(c:Nat)(u:Value) :
  a8 (n.setCell ⟨H,c,none⟩ u) H i (z5.set c u) z7 d/\aA H n d (n.setCell ⟨H,c,none⟩ u) d:=by
 refine⟨⟨?_,?_,h.apart,h.off⟩,(eK.refl _ _).setCell (Q1 (Q1 rfl)) _,fun _ a=>Q1 a⟩
 ·rw[ah h.blk,Ru]
 ·intro j
  refine(h.own j).Vg (fun k a=>Q4 _ _ _ _ ?_);rintro rfl;exact h.off j a
theorem a8.app{cs':List Value}{rows':Nat->dN}(h:a8 n H i z5 z7 d)(c k g b m:Nat)(r:dN)(p:aw a ⟨some ⟨g,0,none⟩,b⟩ r)(u:r=rows' k)(l:n.grownBy a (d k).blk)(f:(d k).blk=some g∨n.heap.size<=g)(o:∀j,j≠k->rows' j=z7 j)(s:Value)(v:z5[c]?=some s)(t:z5.set c (.slice (some ⟨g,0,none⟩) m b)=cs') :
  a.cell? ⟨H,c,none⟩=some s/\a.frozen? ⟨H,c,none⟩=false /\
  Hid (a8 (a.setCell ⟨H,c,none⟩ (.slice (some ⟨g,0,none⟩) m b)) H i cs' rows' (g9 d k ⟨some ⟨g,0,none⟩,b⟩) /\
   aA H n d (a.setCell ⟨H,c,none⟩ (.slice (some ⟨g,0,none⟩) m b)) (g9 d k ⟨some ⟨g,0,none⟩,b⟩)):=by
 have q:=(l.block H h.lt (fun e=>h.off k e.symm)).trans h.blk;subst u;subst t;refine⟨by rw[aa q];simpa using v,am q _,?_⟩
 exact h.put (rows':=rows') c k ⟨some ⟨g,0,none⟩,b⟩ p l
  (by
    rcases f with e | e
    ·exact QV (Q1 e.symm)
    ·exact QV (QV ⟨g,rfl,by simpa using e⟩)) o _
structure nF where
 kind:Int
 U7:Nat
 at_:Pl
def lh(s:nF):List Value:=[.int .i64 s.kind,.int .i64 s.U7,.string s.at_.file,.int .i64 s.at_.line,.int .i64 s.at_.col]
def xi(l:List nF):List Value:=l.flatMap lh
def go(l:List nF):dN:=⟨174,5,l.length,xi l⟩
theorem uh(l:List nF)(s:nF):(⟨(go l).e,(go l).size,(go l).n+1,(go l).xs++lh s⟩:dN)=go (l++[s]):=by simp[go,xi]
theorem un(s:nF):∀u∈lh s,u.oneCell'=true:=by
 intro u a;simp only[lh,List.mem_cons,List.not_mem_nil,or_false]at a
 rcases a with rfl | rfl | rfl | rfl | rfl <;> rfl
theorem OB:(prog.info? 174).map (fun i=>(i.zero,i.size,i.bytes))=some (some (.agg #[.int .i64 0,.int .i64 0,.string ⟨#[]⟩,.int .i64 0,.int .i64 0]),5,48):=by kernel_rfl
structure mg where
 names:List Nat
 Vj:List Nat
 steps:List nF
 Vd:Nat
 behind:Bool
def wW(c:mg):Nat->dN
 | 0=>bB c.names
 | 1=>bB c.Vj
 | 2=>go c.steps
 | _+3=>bB []
def lF(c:mg)(H:Nat->Hd):List Value :=
 [.slice (H 0).ao c.names.length (H 0).cap,.slice (H 1).ao c.Vj.length (H 1).cap,.slice (H 2).ao c.steps.length (H 2).cap,.int .i64 c.Vd,.bool c.behind]
def dL(w:World)(b:Nat)(c:mg)(H:Nat->Hd):Prop:=a8 w b 279 (lF c H) (wW c) H
theorem dL.cells{c:mg}(h:dL n H c d) :
  n.cell? ⟨H,0,none⟩=some (.slice (d 0).ao c.names.length (d 0).cap)/\n.cell? ⟨H,1,none⟩=some (.slice (d 1).ao c.Vj.length (d 1).cap)/\n.cell? ⟨H,2,none⟩=some (.slice (d 2).ao c.steps.length (d 2).cap) /\
  n.cell? ⟨H,3,none⟩=some (.int .i64 c.Vd)/\n.cell? ⟨H,4,none⟩=some (.bool c.behind) :=
 ⟨a8.cell h 0,a8.cell h 1,a8.cell h 2,a8.cell h 3,a8.cell h 4⟩
structure gu(c:mg)(N:Nat):Prop where
 names:c.names.length<=N
 Vj:c.Vj.length<=N
 steps:c.steps.length<=N
 Vd:c.Vd<=10*N+5
 behind:c.behind=true->0<c.steps.length
def eC(c:mg)(s:nF):mg:={ c with steps:=c.steps++[s],behind:=false }
theorem pD(c:mg)(H:Nat->Hd)(k:Int)(n:Nat)(f:ByteArray)(b a:Int)(w:World)(h:dL w l c H)(ok:gu c 10000000) :
  Calls prog 244 #[.pointer (some ⟨l,0,none⟩),.agg #[.int .i64 k,.int .i64 n,.string f,.int .i64 b,.int .i64 a]] w fun e I=>e=.returned (.tuple #[])/\∃x,dL I l (eC c ⟨k,n,⟨f,b,a⟩⟩) x/\aA l w H I x/\∀j,j≠2->x j=H j:=by
 obtain⟨Y,T,C,D,E⟩:=Re OB;have V:=ok.steps;obtain⟨W,v⟩:∃W,W=w.alloc (.cells #[.int .i64 k,.int .i64 n,.string f,.int .i64 b,.int .i64 a] 174):=⟨_,rfl⟩
 have K:ab [] w W:=by rw[v];exact(ab.refl [] _).alloc _
 have t:dL W l c H:=a8.Vb h K;have B:W.heap[w.heap.size]?=some (.cells #[.int .i64 k,.int .i64 n,.string f,.int .i64 b,.int .i64 a] 174 (0,0)):=by rw[v];exact QS _ _
 have y0:W.cell? ⟨w.heap.size,0,none⟩=some (.int .i64 k):=by rw[aa B];rfl
 have y1:W.cell? ⟨w.heap.size,1,none⟩=some (.int .i64 n):=by rw[aa B];rfl
 have y2:W.cell? ⟨w.heap.size,2,none⟩=some (.string f):=by rw[aa B];rfl
 have y3:W.cell? ⟨w.heap.size,3,none⟩=some (.int .i64 b):=by rw[aa B];rfl
 have y4:W.cell? ⟨w.heap.size,4,none⟩=some (.int .i64 a):=by rw[aa B];rfl
 obtain⟨L,M,N,O,P⟩:=t.cells;clear L M O;have z:=a8.free t;have R:=a8.lt t;have X:=ae B;have G:Hid (dL (W.alloc (.cells #[.int .i64 k,.int .i64 n,.string f,.int .i64 b,.int .i64 a] 174)).drew l c H):=a8.Vb t ((ab.refl [] W).alloc _).drew
 have s2:Hid (∀j u,(lh ⟨k,n,⟨f,b,a⟩⟩)[j]?=some u->(W.alloc (.cells #[.int .i64 k,.int .i64 n,.string f,.int .i64 b,.int .i64 a] 174)).drew.cell? ((⟨W.heap.size,0,none⟩:Addr).add j)=some u):=by
  intro j u p;have U:(W.alloc (.cells #[.int .i64 k,.int .i64 n,.string f,.int .i64 b,.int .i64 a] 174)).drew.heap[W.heap.size]?=some (.cells #[.int .i64 k,.int .i64 n,.string f,.int .i64 b,.int .i64 a] 174 (0,0)):=QS _ _;rw[bL,aa U];simpa [lh] using p
 have s4:Hid ((go c.steps).n+1<=maxLen):=by show _<=_;simp only[go];unfold maxLen;omega
 have s5:Hid (((go c.steps).n+1)*48<=140737488355328):=by show _<=_;simp only[go];omega
 have J:Hid _:=v.symm
 have A:Hid (∀j,j≠2->wW { c with steps:=c.steps++[⟨k,n,⟨f,b,a⟩⟩] } j=wW c j):=by
  intro j p
  match j,p with
  | 0,_=>rfl
  | 1,_=>rfl
  | 2,p=>exact absurd rfl p
  | m+3,_=>rfl
 clear v B h;go_enter func244,ntmps244
 go_upto_region 1 with fail
 rw[J.out]
 go_region_law (refine cd rfl (.tmp 8) (.tmp 10) 163 rfl Y (.agg #[.int .i64 0,.int .i64 0,.string ⟨#[]⟩,.int .i64 0,.int .i64 0]) 48 (H 2) (go c.steps) underlying163 T C D E rfl (Uz 4) (by simp[Act.eval] <;> rfl) (a8.own G.out 2) ⟨W.heap.size,0,none⟩ 1 1 (lh ⟨k,n,⟨f,b,a⟩⟩) (by simp[Act.eval]) rfl s2.out (un _) Rc s4.out s5.out ?_;intro g o w1 r q d;obtain⟨Z,Q,s⟩:=a8.app G.out (cs':=lF { c with steps:=c.steps++[⟨k,n,⟨f,b,a⟩⟩] } (g9 H 2 ⟨some ⟨g,0,none⟩,o⟩)) (rows':=wW { c with steps:=c.steps++[⟨k,n,⟨f,b,a⟩⟩] }) 2 2 g o ((go c.steps).n+1) _ r (uh c.steps ⟨k,n,⟨f,b,a⟩⟩) q (by simpa using d) A.out (.slice (H 2).ao c.steps.length (H 2).cap) rfl (by simp[lF,g9,go]);clear r q d)
 all_goals
  have F:Hid _:=a8.set s.out.1 4 (.bool false);have y:=(a8.cell s.out.1 4);have S:=a8.free s.out.1;simp only[lF,List.getElem?_cons_succ,List.getElem?_cons_zero]at y;clear N P z y0 y1 y2 y3 y4 Z Q;go_wp2;go_end0;exact⟨rfl,_,F.out.1,((s.out.2.first ((ab.refl [] _).alloc _).drew).first K).trans F.out.2,fun j p=>bU _ _ _ _ p⟩
def mN(c:mg)(d:Nat):mg:=if c.Vd<=c.names.length+c.Vj.length then { c with behind:=false,Vd:=c.Vd*5+d } else { c with behind:=false }
theorem dL.digs{c:mg}(h:dL n H c d)(a:Nat):Hid (dL (n.setCell ⟨H,3,none⟩ (.int .i64 a)) H { c with Vd:=a } d/\aA H n d (n.setCell ⟨H,3,none⟩ (.int .i64 a)) d):=a8.set h 3 (.int .i64 a)
theorem dL.beh{c:mg}(h:dL n H c d)(x:Bool):Hid (dL (n.setCell ⟨H,4,none⟩ (.bool x)) H { c with behind:=x } d/\aA H n d (n.setCell ⟨H,4,none⟩ (.bool x)) d):=a8.set h 4 (.bool x)
theorem dL.Vb{c:mg}(h:dL n H c d)(k:ab [] n a):dL a H c d:=a8.Vb h k
theorem xT(c:mg)(H:Nat->Hd)(d:Nat)(w:World)(h:dL w l c H)(s:gu c 10000000)(A:d<=5) :
  Calls prog 243 #[.pointer (some ⟨l,0,none⟩),.int .i64 d] w fun e u=>e=.returned (.tuple #[])/\dL u l (mN c d) H/\aA l w H u H:=by
 have x:=s.names;have y:=s.Vj;have z:=s.Vd;obtain⟨i,j,k,m,n⟩:=h.cells;have f:=a8.free h;have b:=h.beh false;obtain⟨v,g⟩:∃v,v=w.setCell ⟨l,4,none⟩ (.bool false):=⟨_,rfl⟩
 have p:Hid _:=g.symm;rw[<-g]at b;clear g
 by_cases o:c.Vd<=c.names.length+c.Vj.length
 ·have r:Hid (mN c d={ c with behind:=false,Vd:=c.Vd*5+d }):=QW o
  go_enter func243,ntmps243
  go_upto_region 1 with fail
  rw[p.out];clear i j k m n f p;obtain⟨i,j,k,m,n⟩:=b.out.1.cells;simp only at i j m;clear k n;have f:=a8.free b.out.1;have t:(c.Vd:Int)<=(c.names.length:Int)+(c.Vj.length:Int):=by omega
  go_quiet (fail)
  have q:=b.out.1.digs (c.Vd*5+d);rw[show((c.Vd*5+d:Nat):Int)=(c.Vd:Int)*5+(d:Int) by omega]at q;go_wp2;go_end0;exact⟨rfl,by rw[r.out];exact q.out.1.Vb ((ab.refl [] _).drewN nq),aA.trans b.out.2 (aA.Vb q.out.2 ((ab.refl [] _).drewN nq))⟩
 ·have r:Hid (mN c d={ c with behind:=false }):=QT o
  go_enter func243,ntmps243
  go_upto_region 1 with fail
  rw[p.out];clear i j k m n f p;obtain⟨i,j,k,m,n⟩:=b.out.1.cells;simp only at i j m;clear k n
  go_quiet (fail)
  go_wp2;go_end0;exact⟨rfl,by rw[r.out];exact b.out.1.Vb ((ab.refl [] _).drewN nq),aA.Vb b.out.2 ((ab.refl [] _).drewN nq)⟩
def kF(c:mg)(u:Nat)(p:Pl):Int×mg :=
 if c.Vd*20+u-1<c.names.length then(0,{ eC { c with Vd:=0 } ⟨2,c.names.getD (c.Vd*20+u-1) 0,p⟩ with behind:=true })
 else if c.Vd*20+u-1-c.names.length<c.Vj.length then(0,{ eC { c with Vd:=0 } ⟨3,c.Vj.getD (c.Vd*20+u-1-c.names.length) 0,p⟩ with behind:=true })
 else(5,{ c with Vd:=0 })
theorem P7(h:l<y6.length):y6.getD l 0=y6[l]:=by rw[QQ,QP h];rfl
theorem KQ(f:ByteArray)(l c:Int) :
  ∃W,Hid (T.alloc (.cells #[.string f,.int .i64 l,.int .i64 c] 36)=W)/\ab [] T W/\W.heap[T.heap.size]?=some (.cells #[.string f,.int .i64 l,.int .i64 c] 36 (0,0))/\W.cell? ⟨T.heap.size,0,none⟩=some (.string f)/\W.cell? ⟨T.heap.size,1,none⟩=some (.int .i64 l)/\W.cell? ⟨T.heap.size,2,none⟩=some (.int .i64 c):=by
 have B:(T.alloc (.cells #[.string f,.int .i64 l,.int .i64 c] 36)).heap[T.heap.size]?=some (.cells #[.string f,.int .i64 l,.int .i64 c] 36 (0,0)):=QS _ _;refine⟨_,rfl,(ab.refl [] _).alloc _,B,?_,?_,?_⟩ <;> rw[aa B] <;> rfl
theorem vX(c:mg)(H:Nat->Hd)(u:Nat)(f:ByteArray)(i d:Int)(w:World)(h:dL w l c H)(I:gu c 10000000)(hu:1<=u)(ap:u<=20) :
  Calls prog 242 #[.pointer (some ⟨l,0,none⟩),.int .i64 u,.agg #[.string f,.int .i64 i,.int .i64 d]] w fun e w'=>e=.returned (.int .i64 (kF c u ⟨f,i,d⟩).1)/\∃H',dL w' l (kF c u ⟨f,i,d⟩).2 H'/\aA l w H w' H':=by
 have h1:=I.names;have h2:=I.Vj;have h3:=I.Vd;obtain⟨W,HW,K,B,p0,p1,p2⟩:=KQ w f i d;have hC:=h.Vb K;have ai:w.heap.size≠l:=by have:=a8.lt h;omega
 have an:Hid (∀k,f9 H k->k≠w.heap.size):=fun k hk=>by have:=a8.inlt h hk;omega
 obtain⟨z,A,Q,R,S⟩:=hC.cells;have ag:=a8.free hC;have p:Hid (dL (W.setCell ⟨l,3,none⟩ (.int .i64 0)) l { c with Vd:=0 } H/\aA l W H (W.setCell ⟨l,3,none⟩ (.int .i64 0)) H):=hC.digs 0;obtain⟨o,n⟩:∃o,o=W.setCell ⟨l,3,none⟩ (.int .i64 0):=⟨_,rfl⟩
 have C:Hid _:=n.symm;rw[<-n]at p;have M:o.heap[w.heap.size]?=some (.cells #[.string f,.int .i64 i,.int .i64 d] 36 (0,0)):=by rw[n];exact(Q4 _ _ _ _ ai).trans B
 have r0:o.cell? ⟨w.heap.size,0,none⟩=some (.string f):=by rw[aa M];rfl
 have r1:o.cell? ⟨w.heap.size,1,none⟩=some (.int .i64 i):=by rw[aa M];rfl
 have r2:o.cell? ⟨w.heap.size,2,none⟩=some (.int .i64 d):=by rw[aa M];rfl
 clear n h;have J:gu { c with Vd:=0 } 10000000:=⟨h1,h2,I.steps,Ro _,I.behind⟩;have ad:Hid (c.Vd*20+u-1=c.Vd*20+(u-1)):=by show _=_;omega
 obtain⟨v,hv⟩:∃v,u=v+1:=⟨u-1,by omega⟩
 subst hv;have r:Hid (c.Vd*20+(v+1)-1=c.Vd*20+v):=by show _=_;omega
 have G:(c.Vd:Int)*20+((v:Int)+1)-1=((c.Vd*20+v:Nat):Int):=by omega
 obtain⟨a,x⟩:∃a,c.Vd*20+v=a:=⟨_,rfl⟩
 have y:Hid (kF c (v+1) ⟨f,i,d⟩=if a<c.names.length then(0,{ eC { c with Vd:=0 } ⟨2,c.names.getD a 0,⟨f,i,d⟩⟩ with behind:=true }) else if a-c.names.length<c.Vj.length then(0,{ eC { c with Vd:=0 } ⟨3,c.Vj.getD (a-c.names.length) 0,⟨f,i,d⟩⟩ with behind:=true }) else(5,{ c with Vd:=0 })):=by
  show _=_;unfold kF;rw[r.out,x]
 rw[x]at G;have al:a<=4000000000:=by omega
 go_enter func242,ntmps242
 go_upto_region 1 with fail
 rw[HW.out]
 go_upto_region 3 with fail
 rw[C.out];clear HW C z A Q R S ag p0 p1 p2 G r ad x;obtain⟨z,A,Q,R,S⟩:=p.out.1.cells;simp only at z A;clear Q R S;have O:Hid (aA l w H o H):=aA.first K p.out.2
 by_cases E:a<c.names.length
 ·have F:=P7 c.names a E
  have q:Hid (kF c (v+1) ⟨f,i,d⟩=(0,{ eC { c with Vd:=0 } ⟨2,c.names[a],⟨f,i,d⟩⟩ with behind:=true })):=by show _=_;rw[y.out,QW E,F]
  have t:aw o (H 0) (bB c.names):=a8.own p.out.1 0
  rcases t.Vm with ⟨_,h0,_⟩ | ⟨g,T,r,-,Z,-⟩
  ·have:c.names.length=0:=h0
   omega
  ·have pe:=t.cell r a (.int .i64 c.names[a]) (jP c.names a E)
   rw[r]at z;have ac:c.names.length<=(H 0).cap:=Z;generalize c.names[a]=nx at *;clear t y A F
   go_upto_region 4 with fail
   go_region_with (go_at_call 244;refine(pD l { c with Vd:=0 } H 2 nx f i d _ (by exact p.out.1.Vb (ab.refl [] _).drew) J).mono ?_;rintro e w9 ⟨rfl,N,s,P,-⟩)
   all_goals
    have D:=s.beh true;obtain⟨U,V,X,Y,d4⟩:=s.cells;have af:=a8.free s;clear U V X Y pe z r0 r1 r2;go_wp2;go_ret;exact⟨QN (by rw[q.out]),N,by rw[q.out];exact D.out.1,aA.trans O.out (aA.trans (aA.first (ab.refl [] _).drew P) D.out.2)⟩
 ·have ao:(a:Int)-(c.names.length:Int)=((a-c.names.length:Nat):Int):=by omega
  by_cases L:a-c.names.length<c.Vj.length
  ·have F:=P7 c.Vj (a-c.names.length) L
   have q:Hid (kF c (v+1) ⟨f,i,d⟩=(0,{ eC { c with Vd:=0 } ⟨3,c.Vj[a-c.names.length],⟨f,i,d⟩⟩ with behind:=true })):=by show _=_;rw[y.out,QT E,QW L,F]
   have t:aw o (H 1) (bB c.Vj):=a8.own p.out.1 1
   rcases t.Vm with ⟨_,h0,_⟩ | ⟨g,T,r,-,Z,-⟩
   ·have:c.Vj.length=0:=h0
    omega
   ·have pe:=t.cell r (a-c.names.length) (.int .i64 c.Vj[a-c.names.length]) (jP c.Vj _ L)
    rw[r]at A;have ac:c.Vj.length<=(H 1).cap:=Z;generalize c.Vj[a-c.names.length]=nx at *;clear t y F;generalize hj:a-c.names.length=j at *
    go_upto_region 9 with fail
    go_region_with (go_at_call 244;refine(pD l { c with Vd:=0 } H 3 nx f i d _ (by exact p.out.1.Vb (ab.refl [] _).drew) J).mono ?_;rintro e w9 ⟨rfl,N,s,P,-⟩)
    all_goals
     have D:=s.beh true;obtain⟨U,V,X,Y,d4⟩:=s.cells;have af:=a8.free s;clear U V X Y pe z A r0 r1 r2;go_wp2;go_ret;exact⟨QN (by rw[q.out]),N,by rw[q.out];exact D.out.1,aA.trans O.out (aA.trans (aA.first (ab.refl [] _).drew P) D.out.2)⟩
  ·have q:Hid (kF c (v+1) ⟨f,i,d⟩=(5,{ c with Vd:=0 })):=by show _=_;rw[y.out,QT E,QT L]
   clear y;generalize hj:a-c.names.length=j at *;go_wp2;go_ret;exact⟨QN (by rw[q.out]),H,by rw[q.out];exact p.out.1,O.out⟩
def cD(c:mg)(n:Nat)(p:Pl):Int×mg :=
 if 65<=n/\n<=84 then kF c (n-64) p
 else if 85<=n/\n<=89 then(0,mN c (n-84))
 else if n=90/\c.behind=true then(0,{ c with Vj:=c.Vj++[c.steps.length-1],behind:=false })
 else if n=63/\c.Vd=0 then(0,eC c ⟨1,0,p⟩)
 else(4,c)
theorem xp(c:mg)(H:Nat->Hd)(n:Nat)(f:ByteArray)(o i:Int)(w:World)(h:dL w l c H)(E:gu c 10000000)(hn:n<256) :
  Calls prog 217 #[.pointer (some ⟨l,0,none⟩),.int .u8 n,.agg #[.string f,.int .i64 o,.int .i64 i]] w fun e z=>e=.returned (.int .i64 (cD c n ⟨f,o,i⟩).1)/\∃H',dL z l (cD c n ⟨f,o,i⟩).2 H'/\aA l w H z H':=by
 have az:=E.steps;have aS:=E.Vj;obtain⟨W,x,K,B,p0,p1,p2⟩:=KQ w f o i;have r:=h.Vb K;clear h;obtain⟨G,I,J,L,D⟩:=r.cells;have ac:=a8.free r;have ar:=a8.lt r
 by_cases k:65<=n/\n<=84
 ·have a:Hid (cD c n ⟨f,o,i⟩=kF c (n-64) ⟨f,o,i⟩):=QW k
  have EN:=fun(z:World) (Y:dL z l c H)=>vX l c H (n-64) f o i z Y E (by omega) (by omega)
  have U:Hid _:=EN;obtain⟨a1,a2⟩:=k;have he:(n:Int)-65+1=((n-64:Nat):Int):=by omega
  clear EN G I J L D;generalize hq:n-64=q at *;go_enter func217,ntmps217
  go_upto_region 1 with fail
  rw[x.out];go_wp2_with fail;refine(U.out _ r).mono ?_;rintro e w2 ⟨rfl,T,v,F⟩;go_wp2;go_ret;exact⟨QN (by rw[a.out]),T,by rw[a.out];exact v,aA.first K F⟩
 ·by_cases p:85<=n/\n<=89
  ·have a:Hid (cD c n ⟨f,o,i⟩=(0,mN c (n-84))):=by show _=_;unfold cD;rw[QT k,QW p]
   obtain⟨a1,a2⟩:=p;have TD:=fun(z:World) (Y:dL z l c H)=>xT l c H (n-84) z Y E (by omega)
   have V:Hid _:=TD;have he:(n:Int)-85+1=((n-84:Nat):Int):=by omega
   have ap:¬n<=84:=by omega
   clear TD G I J L D k;generalize hq:n-84=q at *;go_enter func217,ntmps217
   go_upto_region 1 with fail
   rw[x.out];go_wp2_with fail;refine(V.out _ r).mono ?_;rintro e w2 ⟨rfl,v,F⟩;go_wp2;go_ret;exact⟨QN (by rw[a.out]),H,by rw[a.out];exact v,aA.first K F⟩
  ·by_cases t:n=90/\c.behind=true
   ·have a:Hid (cD c n ⟨f,o,i⟩=(0,{ c with Vj:=c.Vj++[c.steps.length-1],behind:=false })):=by show _=_;unfold cD;rw[QT k,QT p,QW t]
    obtain⟨rfl,s⟩:=t;have an:=E.behind s;rw[s]at D;obtain⟨b,Q⟩:∃b,c.steps.length-1=b:=⟨_,rfl⟩
    have he:(c.steps.length:Int)-1=(b:Int):=by omega
    rw[Q]at a;have aT:IntKind.i64.wrap (b:Int)=(b:Int):=by rw[R9];omega
    obtain⟨i0,hi,af,ag,ai⟩:=Re yH;have hD:Hid (dL (W.alloc (.cells #[.int .i64 b] 3)).drew l c H):=r.Vb ((ab.refl [] W).alloc _).drew
    have s2:Hid (∀j u,([.int .i64 b]:List Value)[j]?=some u->(W.alloc (.cells #[.int .i64 b] 3)).drew.cell? ((⟨W.heap.size,0,none⟩:Addr).add j)=some u):=by
     intro j u P;have hk:(W.alloc (.cells #[.int .i64 b] 3)).drew.heap[W.heap.size]?=some (.cells #[.int .i64 b] 3 (0,0)):=QS _ _;rw[bL,aa hk];simpa using P
    have s3:Hid (∀u∈([.int .i64 b]:List Value),u.oneCell'=true):=by intro u hu;simp at hu;subst hu;rfl
    have s4:Hid ((bB c.Vj).n+1<=maxLen):=by show _<=_;simp only[bB];unfold maxLen;omega
    have s5:Hid (((bB c.Vj).n+1)*8<=140737488355328):=by show _<=_;simp only[bB];omega
    have ad:Hid (∀j,j≠1->wW { c with Vj:=c.Vj++[b] } j=wW c j):=by
     intro j P
     match j,P with
     | 0,_=>rfl
     | 1,P=>exact absurd rfl P
     | 2,_=>rfl
     | m+3,_=>rfl
    clear G L k p p0 p1 p2;go_enter func217,ntmps217
    go_upto_region 1 with fail
    rw[x.out];go_wp2_with fail
    go_region_law (refine cd rfl (.tmp 44) (.tmp 51) 26 rfl i0 (.int .i64 0) 8 (H 1) (bB c.Vj) underlying26 hi af ag ai rfl Rc (by simp[Act.eval] <;> rfl) (a8.own hD.out 1) ⟨W.heap.size,0,none⟩ 1 1 [.int .i64 b] (by simp[Act.eval]) rfl s2.out s3.out Rc s4.out s5.out ?_;intro g y w1 R O d;obtain⟨k5,f5,S⟩:=a8.app hD.out (cs':=lF { c with Vj:=c.Vj++[b] } (g9 H 1 ⟨some ⟨g,0,none⟩,y⟩)) (rows':=wW { c with Vj:=c.Vj++[b] }) 1 1 g y ((bB c.Vj).n+1) _ R (mv c.Vj b) O (by simpa using d) ad.out (.slice (H 1).ao c.Vj.length (H 1).cap) rfl (by simp[lF,g9,bB]);clear R O d)
    all_goals
     have v:Hid _:=a8.set S.out.1 4 (.bool false);have Z:=(a8.cell S.out.1 4);have ax:=a8.free S.out.1;simp only[lF,List.getElem?_cons_succ,List.getElem?_cons_zero,s]at Z;clear I J D ac k5 f5;go_wp2;go_ret;exact⟨QN (by rw[a.out]),_,by rw[a.out];exact v.out.1,((S.out.2.first ((ab.refl [] _).alloc _).drew).first K).trans v.out.2⟩
   ·by_cases A:n=63/\c.Vd=0
    ·have a:Hid (cD c n ⟨f,o,i⟩=(0,eC c ⟨1,0,⟨f,o,i⟩⟩)):=by show _=_;unfold cD;rw[QT k,QT p,QT t,QW A]
     obtain⟨rfl,C⟩:=A;rw[C]at L;clear G I J k p t;go_enter func217,ntmps217
     go_upto_region 1 with fail
     rw[x.out];go_wp2_with fail;refine(pD l c H 1 0 f o i _ r E).mono ?_;rintro e w2 ⟨rfl,T,v,F,-⟩;go_wp2;go_ret;exact⟨QN (by rw[a.out]),T,by rw[a.out];exact v,aA.first K F⟩
    ·have a:Hid (cD c n ⟨f,o,i⟩=(4,c)):=by show _=_;unfold cD;rw[QT k,QT p,QT t,QT A]
     clear G I J
     by_cases N:n=90
     ·have s:c.behind=false:=by
       cases hq:c.behind with
       | false=>rfl
       | true=>exact absurd ⟨N,hq⟩ t
      rw[s]at D;subst N;clear k p t A;go_enter func217,ntmps217
      go_upto_region 1 with fail
      rw[x.out];go_wp2;go_ret;exact⟨QN (by rw[a.out]),H,by rw[a.out];exact r,(aA.refl _ _ _).Vb K⟩
     ·by_cases M:n=63
      ·have C:¬c.Vd=0:=fun hh=>A ⟨M,hh⟩
       have al:((c.Vd:Int)==0)=false:=Rh.2 (by omega);subst M;clear k p t A C;go_enter func217,ntmps217
       go_upto_region 1 with fail
       rw[x.out];go_wp2;go_ret;exact⟨QN (by rw[a.out]),H,by rw[a.out];exact r,(aA.refl _ _ _).Vb K⟩
      ·have e1:((n:Int)==90)=false:=Rh.2 (by omega)
       have e2:((n:Int)==63)=false:=Rh.2 (by omega);clear t A L D
       by_cases a1:65<=n
       ·have a2:¬n<=84:=by omega
        have a3:85<=n:=by omega
        have a4:¬n<=89:=by omega
        clear k p;go_enter func217,ntmps217
        go_upto_region 1 with fail
        rw[x.out];go_wp2;go_ret;exact⟨QN (by rw[a.out]),H,by rw[a.out];exact r,(aA.refl _ _ _).Vb K⟩
       ·have a3:¬85<=n:=by omega
        clear k p;go_enter func217,ntmps217
        go_upto_region 1 with fail
        rw[x.out];go_wp2;go_ret;exact⟨QN (by rw[a.out]),H,by rw[a.out];exact r,(aA.refl _ _ _).Vb K⟩
theorem gu.letter{c:mg}(h:gu c H)(n:Nat)(p:Pl):gu (cD c n p).2 (H+1):=by
  have b:=h.names;have d:=h.Vj;have e:=h.steps;have f:=h.Vd;have a:=h.behind;unfold cD
  split
  · unfold kF eC
    split
    · exact⟨by simp only;omega,by simp only;omega,by simp;omega,by simp,by simp⟩
    · split
      · exact⟨by simp only;omega,by simp only;omega,by simp;omega,by simp,by simp⟩
      · exact⟨by simp only;omega,by simp only;omega,by simp only;omega,by simp,a⟩
  · split
    · next g =>
      unfold mN
      split
      · exact⟨by simp only;omega,by simp only;omega,by simp only;omega,by simp only;omega,by simp⟩
      · exact⟨by simp only;omega,by simp only;omega,by simp only;omega,by simp only;omega,by simp⟩
    · split
      · exact⟨by simp only;omega,by simp;omega,by simp only;omega,by simp only;omega,by simp⟩
      · split
        · exact⟨by simp only[eC];omega,by simp only[eC];omega,by simp[eC];omega,by simp only[eC];omega,by simp[eC]⟩
        · exact⟨by simp only;omega,by simp only;omega,by simp only;omega,by simp only;omega,a⟩
def iQ(t:ByteArray)(p:Pl):Nat->Nat->mg->pA×mg
  | 0,_,c=>(cY,c)
  | f+1,j,c =>
    if j<t.size then
      (if((cD c (aF t j).toNat { p with col:=p.col+j }).1==0)=true then iQ t p f (j+1) (cD c (aF t j).toNat { p with col:=p.col+j }).2
       else(((cD c (aF t j).toNat { p with col:=p.col+j }).1,{ p with col:=p.col+j }),(cD c (aF t j).toNat { p with col:=p.col+j }).2))
    else(cY,c)
def mT(t:ByteArray)(p:Pl)(c:mg):pA×mg:=iQ t p (t.size+1) 0 c
theorem Qn(c:mg)(b:l<zb.size)(h:((cD c (aF zb l).toNat { I with col:=I.col+l }).1==0)=true) :
    iQ zb I (f+1) l c=iQ zb I f (l+1) (cD c (aF zb l).toNat { I with col:=I.col+l }).2:=by rw[iQ,QW b,QW h]
theorem Ok(c:mg)(b:l<zb.size)(h:((cD c (aF zb l).toNat { I with col:=I.col+l }).1==0)=false) :
    iQ zb I (f+1) l c=(((cD c (aF zb l).toNat { I with col:=I.col+l }).1,{ I with col:=I.col+l }),(cD c (aF zb l).toNat { I with col:=I.col+l }).2):=by rw[iQ,QW b,QT (by rw[h];simp)]
theorem Pz(c:mg)(a:¬l<zb.size):iQ zb I (f+1) l c=(cY,c):=by rw[iQ,QT a]
theorem da(h:n.heap[H]?=some (.cells bA 165 (0,0))) :
    n.cell? ⟨H,0,none⟩=some (.int .i64 0)/\n.cell? ⟨H,1,none⟩=some (.string ⟨#[]⟩)/\n.cell? ⟨H,2,none⟩=some (.int .i64 0)/\n.cell? ⟨H,3,none⟩=some (.int .i64 0):=by
  refine⟨?_,?_,?_,?_⟩ <;> (rw[aa h];rfl)
theorem vk{F:Nat}{b:Nat->Hd}(D:a8 a H i z5 z7 b)(T:aA H n d a b)(c:n.heap.size<=F)(j:H≠F)(k:¬f9 b F)(e f g h:Value) :
    a8 ((((a.setCell ⟨F,0,none⟩ e).setCell ⟨F,1,none⟩ f).setCell ⟨F,2,none⟩ g).setCell ⟨F,3,none⟩ h) H i z5 z7 b /\
    aA H n d ((((a.setCell ⟨F,0,none⟩ e).setCell ⟨F,1,none⟩ f).setCell ⟨F,2,none⟩ g).setCell ⟨F,3,none⟩ h) b:=by
  refine⟨D.kept (ji _ _ _ _) (by simpa using j) (fun x l=>by simp;rintro rfl;exact k l),?_,T.2⟩;exact(((T.1.setCell (QV c) _).setCell (QV c) _).setCell (QV c) _).setCell (QV c) _
theorem AD(c:mg)(H:Nat->Hd)(t f:ByteArray)(b a:Int)(w:World)(h:dL w l c H)(N:Nat)(ok:gu c N)(hN:N+t.size<=10000000)(an:-1000000000<=a/\a<=1000000000) :
    Calls prog 184 #[.pointer (some ⟨l,0,none⟩),.agg #[.string t,.string f,.int .i64 b,.int .i64 a]] w fun e m=>e=.returned (gU (mT t ⟨f,b,a⟩ c).1)/\∃n,dL m l (mT t ⟨f,b,a⟩ c).2 n/\aA l w H m n:=by
  obtain⟨W,O⟩:∃W,W=(w.alloc (.cells #[.string t,.string f,.int .i64 b,.int .i64 a] 229)).alloc (.cells #[.int .i64 0,.string ⟨#[]⟩,.int .i64 0,.int .i64 0] 165):=⟨_,rfl⟩
  have K:ab [] w W:=by rw[O];exact((ab.refl [] _).alloc _).alloc _
  have L:W.heap[w.heap.size]?=some (.cells #[.string t,.string f,.int .i64 b,.int .i64 a] 229 (0,0)):=by rw[O];exact((ab.refl [] _).alloc _).get (QS _ _) (by simp)
  have BF:W.heap[w.heap.size+1]?=some (.cells bA 165 (0,0)):=by
    rw[O];have:=QS (w.alloc (.cells #[.string t,.string f,.int .i64 b,.int .i64 a] 229)) (.cells #[.int .i64 0,.string ⟨#[]⟩,.int .i64 0,.int .i64 0] 165);simpa [bA] using this
  have ac:W.heap.size=w.heap.size+2:=by rw[O];simp
  have al:=a8.lt h;have D:Hid (∀k,w.heap.size<=k->¬f9 H k):=fun k hk hm=>by have:=a8.inlt h hm;omega
  have hC:=h.Vb K;have HW:Hid _:=O.symm;have u0:W.cell? ⟨w.heap.size,0,none⟩=some (.string t):=by rw[aa L];rfl
  have u1:W.cell? ⟨w.heap.size,1,none⟩=some (.string f):=by rw[aa L];rfl
  have u2:W.cell? ⟨w.heap.size,2,none⟩=some (.int .i64 b):=by rw[aa L];rfl
  have u3:W.cell? ⟨w.heap.size,3,none⟩=some (.int .i64 a):=by rw[aa L];rfl
  clear O;go_enter func184,ntmps184
  go_upto_region 1 with fail
  rw[HW.out];go_wp2
  go_loopg [6] t.size (fun gk i wr=>∃(j:Nat) (s:mg) (n:Nat->Hd) (U:Nat),j<=t.size/\gk=t.size-j/\i=.int .i64 j/\gu s (N+j)/\t.size-j+1<=U/\Hid (mT t ⟨f,b,a⟩ c=iQ t ⟨f,b,a⟩ U j s)/\dL wr l s n/\aA l w H wr n /\
    wr.heap[w.heap.size]?=some (.cells #[.string t,.string f,.int .i64 b,.int .i64 a] 229 (0,0))/\wr.heap[w.heap.size+1]?=some (.cells bA 165 (0,0))/\wr.heap[w.heap.size+2]?=some (.cells #[.string f,.int .i64 b,.int .i64 (a+j)] 36 (0,0))/\¬f9 n w.heap.size/\¬f9 n (w.heap.size+1)/\¬f9 n (w.heap.size+2))
  case atStart =>
    refine⟨0,c,H,t.size+1,by omega,by omega,rfl,ok,by omega,rfl,hC.Vb ((ab.refl [] _).alloc _),(aA.refl _ _ _).Vb (K.alloc _),((ab.refl [] _).alloc _).get L (by simp),((ab.refl [] _).alloc _).get BF (by simp),?_,D.out _ (by omega),D.out _ (by omega),D.out _ (by omega)⟩;rw[<-ac];have:=QS W (.cells #[.string f,.int .i64 b,.int .i64 a] 36);simpa using this
  case round =>
    obtain⟨j,s,n,U,hj,hg,rfl,q,ao,M,I,hT,B1,B2,P,n1,n2,n3⟩:=hrel;clear u0 u1 u2 u3 L BF hC HW;have u0:wr.cell? ⟨w.heap.size,0,none⟩=some (.string t):=by rw[aa B1];rfl
    have v0:wr.cell? ⟨w.heap.size+2,0,none⟩=some (.string f):=by rw[aa P];rfl
    have v1:wr.cell? ⟨w.heap.size+2,1,none⟩=some (.int .i64 b):=by rw[aa P];rfl
    have v2:wr.cell? ⟨w.heap.size+2,2,none⟩=some (.int .i64 (a+j)):=by rw[aa P];rfl
    obtain⟨p,rfl⟩:∃p,U=p+1:=⟨U-1,by omega⟩
    by_cases A:j<t.size
    · have X:(aF t j).toNat=t[j].toNat:=by rw[bP t j A];rfl
      have L1:=Qn t ⟨f,b,a⟩ p j s A;have L2:=Ok t ⟨f,b,a⟩ p j s A;have G:=q.letter t[j].toNat { (⟨f,b,a⟩:Pl) with col:=a+j };have V:t[j].toNat<256:=UInt8.toNat_lt _;have TL:=fun(m:World) (h':dL m l s n)=>xp l s n t[j].toNat f b (a+j) m h' ⟨by have:=q.names;omega,by have:=q.Vj;omega,by have:=q.steps;omega,by have:=q.Vd;omega,q.behind⟩ V
      rw[X]at L1 L2;simp only at L1 L2 G;have u:Hid _:=L1;have z:Hid _:=L2;have E:Hid _:=TL;clear L1 L2 TL X;generalize cD s t[j].toNat ⟨f,b,a + ↑j⟩=Q at *;obtain⟨r,c2⟩:=Q;simp only at u z E G
      have B:Hid (∀(d:World) (o:Nat->Hd) (_:aA l wr.drew n d o),d.heap[w.heap.size]?=some (.cells #[.string t,.string f,.int .i64 b,.int .i64 a] 229 (0,0))/\d.heap[w.heap.size+1]?=some (.cells bA 165 (0,0))/\d.heap[w.heap.size+2]?=some (.cells #[.string f,.int .i64 b,.int .i64 (a+j)] 36 (0,0))):=by
        intro d o g;exact⟨g.1.get (by exact B1) (by rintro (e | e);omega;exact n1 e),g.1.get (by exact B2) (by rintro (e | e);omega;exact n2 e),g.1.get (by exact P) (by rintro (e | e);omega;exact n3 e)⟩
      have S:Hid (∀(d:World) (o:Nat->Hd) (_:aA l wr.drew n d o),d.cell? ⟨w.heap.size,0,none⟩=some (.string t)/\d.cell? ⟨w.heap.size+2,0,none⟩=some (.string f)/\d.cell? ⟨w.heap.size+2,1,none⟩=some (.int .i64 b)/\d.cell? ⟨w.heap.size+2,2,none⟩=some (.int .i64 (a+j))):=by
        intro d o g;obtain⟨q1,Z,J⟩:=B.out d o g;refine⟨by rw[aa q1];rfl,by rw[aa J];rfl,by rw[aa J];rfl,by rw[aa J];rfl⟩
      have af:=ae B1;have Y:=ae B2;have ag:=ae P
      cases hr:(r==0)
      · have ad:(r != 0)=true:=by simp[bne,hr]
        have C:Hid _:=M.out.trans (z.out hr);clear M u z
        go_upto_region 5 with fail
        go_region_held3 (fun m=>m.cell? ⟨w.heap.size,0,none⟩=some (.string t)/\m.cell? ⟨w.heap.size+2,0,none⟩=some (.string f)/\m.cell? ⟨w.heap.size+2,1,none⟩=some (.int .i64 b)/\m.cell? ⟨w.heap.size+2,2,none⟩=some (.int .i64 (a+j))) (go_keep) (first | (go_at_call 217;refine(E.out _ (by exact I.Vb (ab.refl [] _).drew)).mono ?_;rintro e d ⟨rfl,o,D9,g⟩;obtain⟨x0,x1,x2,x3⟩:=S.out d o g))
        all_goals
          obtain⟨q1,Z,J⟩:=B.out d o g;obtain⟨j0,j1,j2,j3⟩:=da Z;have y:=am Z;have m2:=g.fresh (w.heap.size+1) (by exact Y) n2;have R:Hid _:=(fun a0 a1 a2 a3=>vk D9 (hT.trans (aA.first (ab.refl [] _).drew g)) (F:=w.heap.size+1) (by omega) (by omega) m2 a0 a1 a2 a3);go_wp2
          exact QY (v:=.agg #[.int .i64 r,.string f,.int .i64 b,.int .i64 (a+j)]) (by simp[results,results184,go_sem,j0,j1,j2,j3]) rfl
            ⟨by rw[C.out];rfl,o,by rw[C.out];exact(R.out _ _ _ _).1,(R.out _ _ _ _).2⟩
      · have ad:(r != 0)=false:=by simp[bne,hr]
        have C:Hid _:=M.out.trans (u.out hr);clear M u z
        go_upto_region 5 with fail
        go_region_held3 (fun m=>m.cell? ⟨w.heap.size,0,none⟩=some (.string t)/\m.cell? ⟨w.heap.size+2,0,none⟩=some (.string f)/\m.cell? ⟨w.heap.size+2,1,none⟩=some (.int .i64 b)/\m.cell? ⟨w.heap.size+2,2,none⟩=some (.int .i64 (a+j))) (go_keep) (first | (go_at_call 217;refine(E.out _ (by exact I.Vb (ab.refl [] _).drew)).mono ?_;rintro e d ⟨rfl,o,D9,g⟩;obtain⟨x0,x1,x2,x3⟩:=S.out d o g))
        all_goals
          obtain⟨q1,Z,J⟩:=B.out d o g;have y:=am J;have m1:=g.fresh w.heap.size (by exact af) n1;have m2:=g.fresh (w.heap.size+1) (by exact Y) n2;have m3:=g.fresh (w.heap.size+2) (by exact ag) n3;have T:=hT.trans (aA.first (ab.refl [] _).drew g);go_wp2
          go_roundg (t.size-(j+1))
          case measure=>omega
          case rel =>
            have kk:ab [w.heap.size+2] d (d.setCell ⟨w.heap.size+2,2,none⟩ (.int .i64 (a + ↑j+1))):=(ab.refl _ _).setCell (Q1 (by simp)) _;refine⟨j+1,c2,o,p,by omega,rfl,by go_num,by rw[<-U3];exact G,by omega,C.out,a8.kept D9 kk (by simp;omega) (by intro x hx;simp;rintro rfl;exact m3 hx),⟨T.1.setCell (QV (by simp)) _,T.2⟩,kk.get q1 (by simp),kk.get Z (by simp),?_,m1,m2,m3⟩;rw[ah J,show a+(↑(j+1):Int)=a + ↑j+1 by omega];rfl
    · have C:Hid _:=M.out.trans (Pz t ⟨f,b,a⟩ p j s A)
      obtain⟨j0,j1,j2,j3⟩:=da B2;have y:=am B2;have R:Hid _:=(fun a0 a1 a2 a3=>vk I hT (F:=w.heap.size+1) (by omega) (by omega) n2 a0 a1 a2 a3);clear M;go_wp2
      exact QY (v:=.agg #[.int .i64 0,.string ⟨#[]⟩,.int .i64 0,.int .i64 0]) (by simp[results,results184,go_sem,j0,j1,j2,j3]) rfl
        ⟨by rw[C.out];rfl,n,by rw[C.out];exact(R.out _ _ _ _).1,(R.out _ _ _ _).2⟩
def jG(l:List Nat)(x:Nat):Bool:=l.any (fun y=>y==x)
theorem BQ(h:l<S.length)(b:jG S f=jG (S.drop l) f)(a:(S[l]==f)=true):jG S f=true:=by
 rw[b,Rf h];simp only[jG,List.any_cons,a,Bool.true_or]
theorem yE(h:l<S.length)(b:jG S f=jG (S.drop l) f)(a:(S[l]==f)=false):jG S f=jG (S.drop (l+1)) f:=by
 rw[b,Rf h];simp only[jG,List.any_cons,a,Bool.false_or]
theorem yF(h:¬l<S.length)(a:jG S f=jG (S.drop l) f):jG S f=false:=by
 rw[a,R8 (by omega)];rfl
theorem oF:((f:Int)==(l:Int))=(f==l):=by
 cases h:(f==l)
 ·exact Rh.2 (by have:=Rh.1 h;omega)
 ·have:=TR h;subst this;simp
set_option maxRecDepth 512
theorem CC(c:aw T zt (bB S))(s:S.length<=1073741824) :
  Calls prog 216 #[.slice zt.ao S.length zt.cap,.int .i64 f] T fun e t=>e=.returned (.bool (jG S f))/\t=T:=by
 obtain⟨u,p⟩:=zt
 rcases c.Vm with ⟨r,o,_⟩ | ⟨g,q,n,_⟩
 ·have j:S.length=0:=o
  have m:S=[]:=Rk j;subst m;clear c o j s r;go_enter func216,ntmps216;go_wp2;refine SZ 1 ?_;rw[Tr];go_wp2;go_ret;exact⟨rfl,rfl⟩
 ·simp only at n
  subst n;go_enter func216,ntmps216;go_wp2
  go_loopg [5] S.length (fun g i wr=>∃k:Nat,k<=S.length/\g=S.length-k/\i=.int .i64 k/\Hid (jG S f=jG (S.drop k) f)/\wr=T)
  case atStart=>exact⟨0,by omega,by omega,rfl,rfl,rfl⟩
  case round =>
   obtain⟨k,x,w,rfl,d,rfl⟩:=hrel
   by_cases a:k<S.length
   ·have v:=c.cell rfl k (.int .i64 S[k]) (jP S k a)
    cases b:(S[k]==f)
    ·have h:Hid (jG S f=jG (S.drop (k+1)) f):=yE S f k a d.out b
     have l:=(oF S[k] f).trans b;clear d c b;go_wp2
     go_roundg (S.length-(k+1))
     case measure=>omega
     case rel=>exact⟨k+1,by omega,rfl,by go_num,h,rfl⟩
    ·have h:Hid (jG S f=true):=BQ S f k a d.out b
     have l:=(oF S[k] f).trans b;clear d c b;go_wp2;go_ret;exact⟨aD h.out.symm,rfl⟩
   ·have h:Hid (jG S f=false):=yF S f k a d.out
    clear d c;go_wp2;go_ret;exact⟨aD h.out.symm,rfl⟩
def dD(l:List St)(a:Nat)(fin:Pl):Nat->List (ByteArray×Pl)->List Nat->(Nat×pA)×List Nat
 | _,[],ns=>((0,(3,fin)),ns)
 | i,(t,p) :: r,ns =>
  if(t.toList == [41])=true then((i+1,cY),ns)
  else match my l t a with
   | none=>((0,(2,p)),ns)
   | some n=>if jG ns n=true then((0,(3,p)),ns) else dD l a fin (i+1) r (ns++[n])
theorem dF.far(h:dF n H i M d)(k:eK yr n a)(c:∀x,yr x->ya<=x)(j:∀x,f9 d x->x<ya)(l:H<ya):dF a H i M d:=by
 obtain⟨b,t,f,g⟩:=h.cell;exact⟨⟨b,t,k.get f (fun e=>by have:=c _ e;omega),g⟩,h.Vn.keptP k (fun x m e=>by have:=c _ e;have:=j _ m;omega)⟩
theorem aw.word{l:List (ByteArray×Pl)}(o:aw n z6 (gN l))(k:Nat)(i:k<l.length) :
  ∃g,z6.ao=some ⟨g,0,none⟩/\l.length<=z6.cap/\z6.cap<=9223372036854775807/\n.cell? ⟨g,k*4,none⟩=some (.string l[k].1)/\n.cell? ⟨g,k*4+1,none⟩=some (.string l[k].2.file)/\n.cell? ⟨g,k*4+2,none⟩=some (.int .i64 l[k].2.line)/\n.cell? ⟨g,k*4+3,none⟩=some (.int .i64 l[k].2.col):=by
 rcases o.Vm with ⟨_,f,_⟩ | ⟨g,d,a,p,e,b,-⟩
 ·have:l.length=0:=f
  omega
 ·have c:=fun j (h:j<4) v (m:(qZ l[k])[j]?=some v)=>o.cell a (k*4+j) v ((Ke l k i j h).trans m)
  exact⟨g,a,e,by unfold maxLen at b;exact b,c 0 (by omega) _ rfl,c 1 (by omega) _ rfl,c 2 (by omega) _ rfl,c 3 (by omega) _ rfl⟩
theorem gu.named{c:mg}(h:gu c H)(n:Nat):gu { c with names:=c.names++[n] } (H+1) :=
 ⟨by have:=h.names;simp;omega,by have:=h.Vj;simp only;omega,by have:=h.steps;simp only;omega,by have:=h.Vd;simp only;omega,h.behind⟩
theorem Hb(a:f<D.length) :
  dD w g I f (D.drop f) y6=if(D[f].1.toList == [41])=true then((f+1,cY),y6)
   else match my w D[f].1 g with
    | none=>((0,(2,D[f].2)),y6)
    | some n=>if jG y6 n=true then((0,(3,D[f].2)),y6) else dD w g I (f+1) (D.drop (f+1)) (y6++[n]):=by
 rw[Rf a];rfl
theorem DL(a:¬f<D.length):dD w g I f (D.drop f) y6=((0,(3,I)),y6):=by
 rw[R8 (by omega)];rfl
set_option maxRecDepth 100000
theorem xS(c:mg)(M:Nat->Hd)(Z ro a:Nat)(b:List St)(H:Nat->Hd)(w0 w:World)(h:dL w l c M)(ap:dF w0 Z ro b H)(an:ab [] w0 w)(ha:a<b.length)(ok:iH b)(bj:c.names.length<=10000)(hb:w0.heap.size<=l)(hc:∀x,f9 M x->w0.heap.size<=x) :
  Calls prog 183 #[.pointer (some ⟨l,0,none⟩),.pointer (some ⟨Z,ro,none⟩),.int .i64 a] w fun e w' =>
   e=.returned (.tuple #[.int .i64 (dD b a b[a].fin 1 (b[a].Vh.drop 1) c.names).1.1,gU (dD b a b[a].fin 1 (b[a].Vh.drop 1) c.names).1.2])/\∃al,dL w' l { c with names:=(dD b a b[a].fin 1 (b[a].Vh.drop 1) c.names).2 } al/\aA l w M w' al:=by
 obtain⟨i0,aT,a5,a6,a7⟩:=Re yH;have bg:=a8.lt h;have hr:=ap.Vb an;have be:=ok.len;have br:=ok.prfs a ha;have af:Hid (∀k,w.heap.size<=k->¬f9 M k):=fun k hk hm=>by have:=a8.inlt h hm;omega
 obtain⟨J,ad⟩:∃J,Hid ((H (11+2*a)).ao=J):=⟨_,rfl⟩
 obtain⟨W,hW⟩:∃W,W=w.alloc (.cells #[.int .i64 0,.string ⟨#[]⟩,.int .i64 0,.int .i64 0] 165):=⟨_,rfl⟩
 have K:ab [] w W:=by rw[hW];exact(ab.refl [] _).alloc _
 have BF:W.heap[w.heap.size]?=some (.cells bA 165 (0,0)):=by rw[hW];exact QS _ _
 have HW:Hid _:=hW.symm;clear hW;go_enter func183,ntmps183
 go_upto_region 1 with fail
 rw[HW.out];go_wp2_with fail;refine(a9 Z ro a b H _ (hr.Vb K) ha).mono ?_;rintro e y ⟨rfl,E⟩;unfold ee;rw[ad.out];obtain⟨W2,A⟩:∃W2,W2=y.alloc (.cells #[.int .i64 b[a].kind,.string b[a].label,.slice (H (10+2*a)).ao b[a].U6.length (H (10+2*a)).cap,.slice J b[a].Vh.length (H (11+2*a)).cap,.string b[a].fin.file,.int .i64 b[a].fin.line,.int .i64 b[a].fin.col,.int .i64 b[a].til] 158):=⟨_,rfl⟩
 have ag:Hid _:=A.symm;have K2:ab [] w W2:=by rw[A];exact(K.trans E).alloc _
 have BT:W2.heap[y.heap.size]?=some (.cells #[.int .i64 b[a].kind,.string b[a].label,.slice (H (10+2*a)).ao b[a].U6.length (H (10+2*a)).cap,.slice J b[a].Vh.length (H (11+2*a)).cap,.string b[a].fin.file,.int .i64 b[a].fin.line,.int .i64 b[a].fin.col,.int .i64 b[a].til] 158 (0,0)):=by rw[A];exact QS _ _
 have ac:W2.heap[w.heap.size]?=some (.cells bA 165 (0,0)):=by rw[A];exact((ab.refl [] _).alloc _).get (E.get BF (by simp)) (by simp)
 have bs:w.heap.size<y.heap.size:=by have:=ae (E.get BF (by simp));omega
 clear A
 go_upto_region 2 with fail
 rw[ag.out];clear HW ag E BF K;obtain⟨TB,R⟩:∃TB:Array Value,TB=#[.int .i64 b[a].kind,.string b[a].label,.slice (H (10+2*a)).ao b[a].U6.length (H (10+2*a)).cap,.slice J b[a].Vh.length (H (11+2*a)).cap,.string b[a].fin.file,.int .i64 b[a].fin.line,.int .i64 b[a].fin.col,.int .i64 b[a].til]:=⟨_,rfl⟩
 rw[<-R]at BT;have z:Hid _:=R;clear R;go_wp2
 go_loopg [9] (b[a].Vh.length-1) (fun gk iv wr=>∃(i:Nat) (d:List Nat) (p:Nat->Hd),1<=i/\i<=10001/\gk=b[a].Vh.length-i/\iv=.int .i64 i/\d.length<=10000+i/\Hid (dD b a b[a].fin 1 (b[a].Vh.drop 1) c.names=dD b a b[a].fin i (b[a].Vh.drop i) d)/\dL wr l { c with names:=d } p/\aA l w M wr p /\
  wr.heap[w.heap.size]?=some (.cells bA 165 (0,0))/\wr.heap[y.heap.size]?=some (.cells TB 158 (0,0))/\¬f9 p w.heap.size/\¬f9 p y.heap.size)
 case atStart=>exact⟨1,c.names,M,by omega,by omega,rfl,rfl,by omega,rfl,h.Vb K2,(aA.refl _ _ _).Vb K2,ac,BT,af.out _ (by omega),af.out _ (by omega)⟩
 case round =>
  obtain⟨i,d,p,bl,bo,hg,rfl,bp,hR,hC,hT,B1,L,n1,n2⟩:=hrel;clear BT ac K2
  have hP:∀x,(x=l∨f9 M x)->w0.heap.size<=x:=by
   rintro x (e | e)
   ·omega
   ·exact hc x e
  have T:dF wr Z ro b H:=ap.Vb (an.ofP hT.1 hP);have Q:=T.Vn.prfs a b[a] (QP ha);have bc:=ae B1;have bd:=ae L;obtain⟨z0,z1,z2,z3⟩:=da B1;have yz:=am B1
  by_cases S:i<b[a].Vh.length
  ·obtain⟨gp,ep,ba,az,d0,d1,d2,d3⟩:=Q.word i S
   obtain rfl:J=some ⟨gp,0,none⟩:=ad.out.symm.trans ep;have ax:Hid _:=ep;have t3:wr.cell? ⟨y.heap.size,3,none⟩=some (.slice (some ⟨gp,0,none⟩) b[a].Vh.length (H (11+2*a)).cap):=by rw[aa L,z.out];rfl
   clear ep;have BL:=Hb b a b[a].fin i b[a].Vh d S;have o:Hid _:=hR.out.trans BL;clear BL hR Q;generalize hwd:b[a].Vh[i]=wd at *;obtain⟨t,X,Y,V⟩:=wd;simp only at d0 d1 d2 d3 o;obtain⟨s,D⟩:∃s,s=wr.alloc (.cells #[.string t,.string X,.int .i64 Y,.int .i64 V] 229):=⟨_,rfl⟩
   have N:ab [] wr s:=by rw[D];exact(ab.refl [] _).alloc _
   have B5:s.heap[wr.heap.size]?=some (.cells #[.string t,.string X,.int .i64 Y,.int .i64 V] 229 (0,0)):=by rw[D];exact QS _ _
   have ai:Hid _:=D.symm;have bk:gp<wr.heap.size:=(T.Vn.prfs a b[a] (QP ha)).lt (by unfold Hd.blk;rw[ax.out];rfl);clear D
   go_upto_region 6 with fail
   rw[ai.out];clear ai d0 d1 d2 d3 t3 z0 z1 z2 z3 yz;have v0:s.cell? ⟨wr.heap.size,0,none⟩=some (.string t):=by rw[aa B5];rfl
   have v1:s.cell? ⟨wr.heap.size,1,none⟩=some (.string X):=by rw[aa B5];rfl
   have v2:s.cell? ⟨wr.heap.size,2,none⟩=some (.int .i64 Y):=by rw[aa B5];rfl
   have v3:s.cell? ⟨wr.heap.size,3,none⟩=some (.int .i64 V):=by rw[aa B5];rfl
   have C5:=hC.Vb N;have T5:=hT.Vb N;have R5:=T.Vb N;have F5:=N.get B1 (by simp);have S5:=N.get L (by simp);obtain⟨z0,z1,z2,z3⟩:=da F5;have yz:=am F5;have C:Hid _:=fun a0 a1 a2 a3=>vk C5 T5 (F:=w.heap.size) (QR _) (by omega) n1 a0 a1 a2 a3
   cases ht:(t.toList == [41])
   ·rcases hf:my b t a with _ | n
    ·have r:Hid (dD b a b[a].fin 1 (b[a].Vh.drop 1) c.names=((0,(2,⟨X,Y,V⟩)),d)):=by show _=_;rw[o.out,ht,hf];simp
     clear o
     go_upto_region 10 with (go_at_call 185;refine(iq Z ro a t b H _ (by exact R5) (by omega)).mono ?_;rintro e w6 ⟨rfl,B⟩;rw[B,hf];simp only[nB])
     go_region
     all_goals go_wp2
     all_goals exact QY (v:=.tuple #[.int .i64 0,.agg #[.int .i64 2,.string X,.int .i64 Y,.int .i64 V]]) (by simp[results,results183,go_sem,z0,z1,z2,z3]) rfl ⟨by rw[r.out];rfl,p,by rw[r.out];exact(dL.Vb (C.out _ _ _ _).1 (ab.refl [] _).drew),aA.Vb (C.out _ _ _ _).2 (ab.refl [] _).drew⟩
    ·obtain⟨k0,k1,k2,k3,k4⟩:=C5.cells
     simp only at k0;clear k1 k2 k3 k4;have P:aw s (p 0) (bB d):=a8.own C5 0
     cases hh:jG d n
     ·have r:Hid (dD b a b[a].fin 1 (b[a].Vh.drop 1) c.names=dD b a b[a].fin (i+1) (b[a].Vh.drop (i+1)) (d++[n])):=by show _=_;rw[o.out,ht,hf];simp[hh]
      have O:=C5.Vb ((ab.refl [] s).alloc (.cells #[.int .i64 n] 3));have aS:=a8.free C5;have bf:=a8.lt C5
      have a4:Hid (∀j,j≠0->wW { c with names:=d++[n] } j=wW { c with names:=d } j):=by
       intro j I
       match j,I with
       | 0,I=>exact absurd rfl I
       | 1,_=>rfl
       | 2,_=>rfl
       | m+3,_=>rfl
      clear o C z0 z1 z2 z3 yz
      go_upto_region 13 with (first | (go_at_call 185;refine(iq Z ro a t b H _ (by exact R5) (by omega)).mono ?_;rintro e w6 ⟨rfl,B⟩;rw[B,hf];simp only[nB]) | (go_at_call 216;refine(CC (p 0) d n _ (by exact P) (by omega)).mono ?_;rintro e w7 ⟨rfl,U⟩;rw[U]))
      go_wp2_with (at_builtin;refine aM _ rfl (.tmp 56) (.tmp 58) 26 rfl i0 (.int .i64 0) 8 (p 0) (bB d) underlying26 aT a5 a6 a7 rfl Rc rfl (by exact a8.own O 0) ⟨_,0,none⟩ 1 1 [.int .i64 n] rfl rfl ?e1 ?e2 Rc ?e3 ?e4 ?_)
      case e1=>intro j u I;match j,I with | 0,I=>simp at I;subst I;simp[Addr.add]
      case e2=>intro u hu;simp at hu;subst hu;rfl
      case e3=>simp only[bB];unfold maxLen;omega
      case e4=>simp only[bB];omega
      intro g8 g w8 ar G q;obtain⟨k5,f5,HP⟩:=a8.app O (cs':=lF { c with names:=d++[n] } (g9 p 0 ⟨some ⟨g8,0,none⟩,g⟩)) (rows':=wW { c with names:=d++[n] }) 0 0 g8 g ((bB d).n+1) _ ar (mv d n) G (by simpa using q) a4.out (.slice (p 0).ao d.length (p 0).cap) rfl (by simp[lF,g9,bB]);have T8:Hid _:=(T5.Vb ((ab.refl [] s).alloc (.cells #[.int .i64 n] 3))).trans HP.out.2;have F8:Hid ((w8.setCell ⟨l,0,none⟩ (.slice (some ⟨g8,0,none⟩) ((bB d).n+1) g)).heap[w.heap.size]?=some (.cells bA 165 (0,0))):=HP.out.2.1.get (((ab.refl [] s).alloc _).get F5 (by simp)) (by rintro (e | e);omega;exact n1 e);have S8:Hid ((w8.setCell ⟨l,0,none⟩ (.slice (some ⟨g8,0,none⟩) ((bB d).n+1) g)).heap[y.heap.size]?=some (.cells TB 158 (0,0))):=HP.out.2.1.get (((ab.refl [] s).alloc _).get S5 (by simp)) (by rintro (e | e);omega;exact n2 e);have m1:Hid (¬f9 (g9 p 0 ⟨some ⟨g8,0,none⟩,g⟩) w.heap.size):=aA.fresh HP.out.2 _ (by have:=N.size;simp;omega) n1;have m2:Hid (¬f9 (g9 p 0 ⟨some ⟨g8,0,none⟩,g⟩) y.heap.size):=aA.fresh HP.out.2 _ (by have:=N.size;simp;omega) n2;clear ar G q k0 aS P O v0 v1 v2 v3;go_wp2
      go_roundg (b[a].Vh.length-(i+1))
      case measure=>omega
      case rel=>exact⟨i+1,d++[n],_,by omega,by omega,rfl,by go_num,by simp;omega,r.out,HP.out.1,T8.out,F8.out,S8.out,m1.out,m2.out⟩
     ·have r:Hid (dD b a b[a].fin 1 (b[a].Vh.drop 1) c.names=((0,(3,⟨X,Y,V⟩)),d)):=by show _=_;rw[o.out,ht,hf];simp[hh]
      clear o
      go_upto_region 12 with (first | (go_at_call 185;refine(iq Z ro a t b H _ (by exact R5) (by omega)).mono ?_;rintro e w6 ⟨rfl,B⟩;rw[B,hf];simp only[nB]) | (go_at_call 216;refine(CC (p 0) d n _ (by exact P) (by omega)).mono ?_;rintro e w7 ⟨rfl,U⟩;rw[U]))
      go_region
      all_goals go_wp2
      all_goals exact QY (v:=.tuple #[.int .i64 0,.agg #[.int .i64 3,.string X,.int .i64 Y,.int .i64 V]]) (by simp[results,results183,go_sem,z0,z1,z2,z3]) rfl ⟨by rw[r.out];rfl,p,by rw[r.out];exact(dL.Vb (C.out _ _ _ _).1 (ab.refl [] _).drew),aA.Vb (C.out _ _ _ _).2 (ab.refl [] _).drew⟩
   ·have r:Hid (dD b a b[a].fin 1 (b[a].Vh.drop 1) c.names=((i+1,cY),d)):=by show _=_;rw[o.out,ht];simp
    clear o;go_wp2
    exact QY (v:=.tuple #[.int .i64 (i+1),.agg #[.int .i64 0,.string ⟨#[]⟩,.int .i64 0,.int .i64 0]]) (by simp[results,results183,go_sem,z0,z1,z2,z3]) rfl
     ⟨by rw[r.out];rfl,p,by rw[r.out];exact(C.out _ _ _ _).1,(C.out _ _ _ _).2⟩
  ·have r:Hid (dD b a b[a].fin 1 (b[a].Vh.drop 1) c.names=((0,(3,b[a].fin)),d)):=hR.out.trans (DL b a b[a].fin i b[a].Vh d S)
   have t3:wr.cell? ⟨y.heap.size,3,none⟩=some (.slice J b[a].Vh.length (H (11+2*a)).cap):=by rw[aa L,z.out];rfl
   have t4:wr.cell? ⟨y.heap.size,4,none⟩=some (.string b[a].fin.file):=by rw[aa L,z.out];rfl
   have t5:wr.cell? ⟨y.heap.size,5,none⟩=some (.int .i64 b[a].fin.line):=by rw[aa L,z.out];rfl
   have t6:wr.cell? ⟨y.heap.size,6,none⟩=some (.int .i64 b[a].fin.col):=by rw[aa L,z.out];rfl
   have C:Hid _:=(fun a0 a1 a2 a3=>vk hC hT (F:=w.heap.size) (QR _) (by omega) n1 a0 a1 a2 a3);clear hR Q
   go_upto_region 14 with fail
   go_region
   all_goals go_wp2
   all_goals exact QY (v:=.tuple #[.int .i64 0,.agg #[.int .i64 3,.string b[a].fin.file,.int .i64 b[a].fin.line,.int .i64 b[a].fin.col]]) (by simp[results,results183,go_sem,z0,z1,z2,z3]) rfl ⟨by rw[r.out];rfl,p,by rw[r.out];exact(dL.Vb (C.out _ _ _ _).1 (ab.refl [] _).drew),aA.Vb (C.out _ _ _ _).2 (ab.refl [] _).drew⟩
def fL(l:List St)(a:Nat)(fin:Pl):List (ByteArray×Pl)->List nF->List nF×pA
 | [],acc=>if acc.length=0 then([],(1,fin)) else(acc,cY)
 | (t,p) :: r,acc =>
  if(t.toList == [63])=true then fL l a fin r (acc++[⟨1,0,p⟩])
  else match my l t a with
   | none=>([],(2,p))
   | some n=>fL l a fin r (acc++[⟨2,n,p⟩])
theorem LM(a:List nF)(b:f<D.length) :
  fL w g I (D.drop f) a=if(D[f].1.toList == [63])=true then fL w g I (D.drop (f+1)) (a++[⟨1,0,D[f].2⟩])
   else match my w D[f].1 g with
    | none=>([],(2,D[f].2))
    | some n=>fL w g I (D.drop (f+1)) (a++[⟨2,n,D[f].2⟩]):=by
 rw[Rf b];rfl
theorem IZ(a:List nF)(b:¬f<D.length):fL w g I (D.drop f) a=if a.length=0 then([],(1,I)) else(a,cY):=by
 rw[R8 (by omega)];rfl
theorem kH{F:Nat}(K:ab [] n a)(b:n.heap.size<=F)(c d e f:Value):ab [] n ((((a.setCell ⟨F,0,none⟩ c).setCell ⟨F,1,none⟩ d).setCell ⟨F,2,none⟩ e).setCell ⟨F,3,none⟩ f) :=
 (((K.setCell (QV b) _).setCell (QV b) _).setCell (QV b) _).setCell (QV b) _
theorem Qd(K:ab [] n a)(b:n.heap.size<=H)(c d e f g:Value):ab [] n (((((a.setCell ⟨H,0,none⟩ c).setCell ⟨H,1,none⟩ d).setCell ⟨H,2,none⟩ e).setCell ⟨H,3,none⟩ f).setCell ⟨H,4,none⟩ g) :=
 ((((K.setCell (QV b) _).setCell (QV b) _).setCell (QV b) _).setCell (QV b) _).setCell (QV b) _
theorem pS(hr:dF T N o w k)(ha:b<w.length)(ok:iH w) :
  Calls prog 139 #[.pointer (some ⟨N,o,none⟩),.int .i64 b] T fun e w'=>∃m:Hd,
   e=.returned (.tuple #[.slice m.ao (fL w b w[b].fin w[b].Vh []).1.length m.cap,gU (fL w b w[b].fin w[b].Vh []).2])/\aw w' m (go (fL w b w[b].fin w[b].Vh []).1)/\(∀x,m.blk=some x->T.heap.size<=x)/\ab [] T w':=by
 obtain⟨i0,ai,an,M,ap⟩:=Re OB;have a7:=hr.lt;have a5:=ok.len;have bc:=ok.prfs b ha;obtain⟨AO,ac⟩:∃AO,Hid ((k (11+2*b)).ao=AO):=⟨_,rfl⟩
 obtain⟨W,hW⟩:∃W,W=T.alloc (.cells #[.int .i64 0,.string ⟨#[]⟩,.int .i64 0,.int .i64 0] 165):=⟨_,rfl⟩
 have K:ab [] T W:=by rw[hW];exact(ab.refl [] _).alloc _
 have BF:W.heap[T.heap.size]?=some (.cells bA 165 (0,0)):=by rw[hW];exact QS _ _
 have HW:Hid _:=hW.symm;clear hW;go_enter func139,ntmps139
 go_upto_region 1 with fail
 rw[HW.out];go_wp2_with fail;refine(a9 N o b w k _ (hr.Vb K) ha).mono ?_;rintro e Q ⟨rfl,L⟩;unfold ee;rw[ac.out];obtain⟨y,E⟩:∃y,y=Q.alloc (.cells #[.int .i64 w[b].kind,.string w[b].label,.slice (k (10+2*b)).ao w[b].U6.length (k (10+2*b)).cap,.slice AO w[b].Vh.length (k (11+2*b)).cap,.string w[b].fin.file,.int .i64 w[b].fin.line,.int .i64 w[b].fin.col,.int .i64 w[b].til] 158):=⟨_,rfl⟩
 have ad:Hid _:=E.symm;have K2:ab [] T y:=by rw[E];exact(K.trans L).alloc _
 obtain⟨TB,X⟩:∃TB:Array Value,TB=#[.int .i64 w[b].kind,.string w[b].label,.slice (k (10+2*b)).ao w[b].U6.length (k (10+2*b)).cap,.slice AO w[b].Vh.length (k (11+2*b)).cap,.string w[b].fin.file,.int .i64 w[b].fin.line,.int .i64 w[b].fin.col,.int .i64 w[b].til]:=⟨_,rfl⟩
 have BT:y.heap[Q.heap.size]?=some (.cells TB 158 (0,0)):=by rw[E,X];exact QS _ _
 have ax:y.heap[T.heap.size]?=some (.cells bA 165 (0,0)):=by rw[E];exact((ab.refl [] _).alloc _).get (L.get BF (by simp)) (by simp)
 have bd:T.heap.size<Q.heap.size:=by have:=ae (L.get BF (by simp));omega
 have bf:=ae BT;have B:Hid _:=X;clear E X
 go_upto_region 2 with fail
 rw[ad.out];clear HW ad L BF K;go_wp2
 go_loopg [7,8] w[b].Vh.length (fun gk sv iv wr=>∃(i:Nat) (a:List nF) (m:Hd),i<=w[b].Vh.length/\gk=w[b].Vh.length-i/\iv=.int .i64 i/\sv=.slice m.ao a.length m.cap/\a.length<=i/\Hid (fL w b w[b].fin w[b].Vh []=fL w b w[b].fin (w[b].Vh.drop i) a)/\aw wr m (go a)/\(∀x,m.blk=some x->y.heap.size<=x) /\
  ab [] y wr)
 case atStart=>exact⟨0,[],⟨none,0⟩,by omega,by omega,rfl,rfl,by simp,rfl,QZ _ _ _ _,by intro x h;simp[Hd.blk]at h,ab.refl _ _⟩
 case round =>
  obtain⟨i,a,m,hi,hg,rfl,rfl,a6,hR,hO,hN,hK⟩:=hrel;have KW:=K2.trans hK;have al:=hr.Vb KW;have B1:=hK.get ax (by simp);have B2:=hK.get BT (by simp);have a3:=ae B1;have a4:=ae B2;obtain⟨z0,z1,z2,z3⟩:=da B1;have yz:=am B1;have J:=al.Vn.prfs b w[b] (QP ha);have a0:=K2.size
  by_cases Y:i<w[b].Vh.length
  ·obtain⟨gp,ep,a2,aS,d0,d1,d2,d3⟩:=J.word i Y
   obtain rfl:AO=some ⟨gp,0,none⟩:=ac.out.symm.trans ep;have t3:wr.cell? ⟨Q.heap.size,3,none⟩=some (.slice (some ⟨gp,0,none⟩) w[b].Vh.length (k (11+2*b)).cap):=by rw[aa B2,B.out];rfl
   have ba:gp<wr.heap.size:=J.lt (by unfold Hd.blk;rw[ep];rfl);clear ep;have BL:=LM w b w[b].fin i w[b].Vh a Y;have s:Hid _:=hR.out.trans BL;clear BL hR J;generalize hwd:w[b].Vh[i]=wd at *;obtain⟨t,f,g,d⟩:=wd;simp only at d0 d1 d2 d3 s;obtain⟨l,F⟩:∃l,l=(wr.alloc (.cells #[.string t,.string f,.int .i64 g,.int .i64 d] 229)).alloc (.cells #[.int .i64 1,.int .i64 0,.string f,.int .i64 g,.int .i64 d] 174):=⟨_,rfl⟩
   have K5:ab [] wr l:=by rw[F];exact((ab.refl [] _).alloc _).alloc _
   have B5:l.heap[wr.heap.size]?=some (.cells #[.string t,.string f,.int .i64 g,.int .i64 d] 229 (0,0)):=by rw[F];exact((ab.refl [] _).alloc _).get (QS _ _) (by simp)
   have O:l.heap[wr.heap.size+1]?=some (.cells #[.int .i64 1,.int .i64 0,.string f,.int .i64 g,.int .i64 d] 174 (0,0)):=by
    rw[F];have:=QS (wr.alloc (.cells #[.string t,.string f,.int .i64 g,.int .i64 d] 229)) (.cells #[.int .i64 1,.int .i64 0,.string f,.int .i64 g,.int .i64 d] 174);simpa using this
   have af:Hid _:=F.symm;clear F
   go_upto_region 8 with fail
   rw[af.out];clear af d0 d1 d2 d3 t3 z0 z1 z2 z3 yz;have v0:l.cell? ⟨wr.heap.size,0,none⟩=some (.string t):=by rw[aa B5];rfl
   have v1:l.cell? ⟨wr.heap.size,1,none⟩=some (.string f):=by rw[aa B5];rfl
   have v2:l.cell? ⟨wr.heap.size,2,none⟩=some (.int .i64 g):=by rw[aa B5];rfl
   have v3:l.cell? ⟨wr.heap.size,3,none⟩=some (.int .i64 d):=by rw[aa B5];rfl
   have u0:l.cell? ⟨wr.heap.size+1,0,none⟩=some (.int .i64 1):=by rw[aa O];rfl
   have u1:l.cell? ⟨wr.heap.size+1,1,none⟩=some (.int .i64 0):=by rw[aa O];rfl
   have u2:l.cell? ⟨wr.heap.size+1,2,none⟩=some (.string f):=by rw[aa O];rfl
   have u3:l.cell? ⟨wr.heap.size+1,3,none⟩=some (.int .i64 g):=by rw[aa O];rfl
   have u4:l.cell? ⟨wr.heap.size+1,4,none⟩=some (.int .i64 d):=by rw[aa O];rfl
   have yu:=am O;have I:aw l m (go a):=hO.Vg (fun x h=>K5.block x (hO.lt h) (by simp));have R5:=al.Vb K5;have F5:=K5.get B1 (by simp);obtain⟨z0,z1,z2,z3⟩:=da F5;have yz:=am F5;have R:Hid (ab [] y l):=hK.trans K5;have be:=ae O
   cases ht:(t.toList == [63])
   ·have a1:(t.toList != [63])=true:=by simp[bne,ht]
    rcases hf:my w t b with _ | n
    ·have z:Hid (fL w b w[b].fin w[b].Vh []=([],(2,⟨f,g,d⟩))):=by show _=_;rw[s.out,ht,hf];simp
     clear s
     go_upto_region 11 with (go_at_call 185;refine(iq N o b t w k _ (by exact R5) (by omega)).mono ?_;rintro e w6 ⟨rfl,Z⟩;rw[Z,hf];simp only[nB])
     go_region
     all_goals go_wp2
     all_goals exact QY (v:=.tuple #[.slice none 0 0,.agg #[.int .i64 2,.string f,.int .i64 g,.int .i64 d]]) (by simp[results,results139,go_sem,z0,z1,z2,z3]) rfl ⟨⟨none,0⟩,by rw[z.out];rfl,by rw[z.out];exact QZ _ _ _ _,by intro x h;simp[Hd.blk]at h,(kH (K2.trans R.out) (QR _) _ _ _ _).drew⟩
    ·have z:Hid (fL w b w[b].fin w[b].Vh []=fL w b w[b].fin (w[b].Vh.drop (i+1)) (a++[⟨2,n,⟨f,g,d⟩⟩])):=by show _=_;rw[s.out,ht,hf];simp
     clear s;obtain⟨q,G⟩:∃q,q=((((l.setCell ⟨wr.heap.size+1,0,none⟩ (.int .i64 2)).setCell ⟨wr.heap.size+1,1,none⟩ (.int .i64 n)).setCell ⟨wr.heap.size+1,2,none⟩ (.string f)).setCell ⟨wr.heap.size+1,3,none⟩ (.int .i64 g)).setCell ⟨wr.heap.size+1,4,none⟩ (.int .i64 d):=⟨_,rfl⟩
     have ar:ab [wr.heap.size+1] l q:=by rw[G];exact((((((ab.refl _ _).setCell (Q1 (by simp)) _).setCell (Q1 (by simp)) _).setCell (Q1 (by simp)) _).setCell (Q1 (by simp)) _).setCell (Q1 (by simp)) _)
     have S6:q.heap[wr.heap.size+1]?=some (.cells #[.int .i64 2,.int .i64 n,.string f,.int .i64 g,.int .i64 d] 174 (0,0)):=by
      rw[G,ah (ah (ah (ah (ah O _ _) _ _) _ _) _ _)];rfl
     have az:Hid (ab [] y q):=by
      show ab [] y q
      rw[G];exact Qd R.out (by have:=hK.size;omega) _ _ _ _ _
     have P:aw q m (go a):=I.Vg (fun x h=>ar.block x (I.lt h) (by simp;rintro rfl;have:=hO.lt h;omega));have ag:Hid _:=G.symm;clear G ar
     go_upto_region 13 with (go_at_call 185;refine(iq N o b t w k _ (by exact R5) (by omega)).mono ?_;rintro e w6 ⟨rfl,Z⟩;rw[Z,hf];simp only[nB])
     rw[ag.out];clear ag u0 u1 u2 u3 u4 yu;have u0:q.cell? ⟨wr.heap.size+1,0,none⟩=some (.int .i64 2):=by rw[aa S6];rfl
     have u1:q.cell? ⟨wr.heap.size+1,1,none⟩=some (.int .i64 n):=by rw[aa S6];rfl
     have u2:q.cell? ⟨wr.heap.size+1,2,none⟩=some (.string f):=by rw[aa S6];rfl
     have u3:q.cell? ⟨wr.heap.size+1,3,none⟩=some (.int .i64 g):=by rw[aa S6];rfl
     have u4:q.cell? ⟨wr.heap.size+1,4,none⟩=some (.int .i64 d):=by rw[aa S6];rfl
     have D:=P.Vg (fun x h=>((ab.refl [] q).alloc (.cells #[.int .i64 2,.int .i64 n,.string f,.int .i64 g,.int .i64 d] 174)).block x (P.lt h) (by simp));have K6:Hid (ab [] y (q.alloc (.cells #[.int .i64 2,.int .i64 n,.string f,.int .i64 g,.int .i64 d] 174))):=ab.alloc az.out _;clear z0 z1 z2 z3 yz v0 v1 v2 v3;go_wp2_with (at_builtin;refine aM _ rfl (.tmp 47) (.tmp 49) 163 rfl i0 (.agg #[.int .i64 0,.int .i64 0,.string ⟨#[]⟩,.int .i64 0,.int .i64 0]) 48 m (go a) underlying163 ai an M ap rfl (Uz 4) rfl (by exact D) ⟨_,0,none⟩ 1 1 (lh ⟨2,n,⟨f,g,d⟩⟩) rfl rfl ?e1 (un _) Rc ?e3 ?e4 ?_)
     case e1 =>
      intro j u hj;have hk:(q.alloc (.cells #[.int .i64 2,.int .i64 n,.string f,.int .i64 g,.int .i64 d] 174)).heap[q.heap.size]?=some (.cells #[.int .i64 2,.int .i64 n,.string f,.int .i64 g,.int .i64 d] 174 (0,0)):=QS _ _;rw[bL,aa hk];simpa [lh] using hj
     case e3=>simp only[go];unfold maxLen;omega
     case e4=>simp only[go];omega
     intro S C w8 H p c;rw[uh a ⟨2,n,⟨f,g,d⟩⟩]at H;have V:=(K6.out).grown p hN
     have aT:y.heap.size<=S:=by
      rcases c with e | e
      ·exact hN S e
      ·have:=K6.out.size;simp at e this;omega
     have U:Hid ((go a).n+1=(a++[(⟨2,n,⟨f,g,d⟩⟩:nF)]).length):=by show _=_;simp[go]
     rw[U.out];clear p c D;go_wp2
     go_roundg (w[b].Vh.length-(i+1))
     case measure=>omega
     case rel=>exact⟨i+1,a++[⟨2,n,⟨f,g,d⟩⟩],⟨some ⟨S,0,none⟩,C⟩,by omega,rfl,by go_num,rfl,by simp;omega,z,H,by intro x h;simp[Hd.blk]at h;omega,V⟩
   ·have a1:(t.toList != [63])=false:=by simp[bne,ht]
    have z:Hid (fL w b w[b].fin w[b].Vh []=fL w b w[b].fin (w[b].Vh.drop (i+1)) (a++[⟨1,0,⟨f,g,d⟩⟩])):=by show _=_;rw[s.out,ht];simp
    clear s;have D:=I.Vg (fun x h=>((ab.refl [] l).alloc (.cells #[.int .i64 1,.int .i64 0,.string f,.int .i64 g,.int .i64 d] 174)).block x (I.lt h) (by simp));have K6:Hid (ab [] y (l.alloc (.cells #[.int .i64 1,.int .i64 0,.string f,.int .i64 g,.int .i64 d] 174))):=ab.alloc R.out _;clear z0 z1 z2 z3 yz
    go_upto_region 13 with fail
    clear v0 v1 v2 v3;go_wp2_with (at_builtin;refine aM _ rfl (.tmp 47) (.tmp 49) 163 rfl i0 (.agg #[.int .i64 0,.int .i64 0,.string ⟨#[]⟩,.int .i64 0,.int .i64 0]) 48 m (go a) underlying163 ai an M ap rfl (Uz 4) rfl (by exact D) ⟨_,0,none⟩ 1 1 (lh ⟨1,0,⟨f,g,d⟩⟩) rfl rfl ?e1 (un _) Rc ?e3 ?e4 ?_)
    case e1 =>
     intro j u hj;have hk:(l.alloc (.cells #[.int .i64 1,.int .i64 0,.string f,.int .i64 g,.int .i64 d] 174)).heap[l.heap.size]?=some (.cells #[.int .i64 1,.int .i64 0,.string f,.int .i64 g,.int .i64 d] 174 (0,0)):=QS _ _;rw[bL,aa hk];simpa [lh] using hj
    case e3=>simp only[go];unfold maxLen;omega
    case e4=>simp only[go];omega
    intro S C w8 H p c;rw[uh a ⟨1,0,⟨f,g,d⟩⟩]at H;have V:=(K6.out).grown p hN
    have aT:y.heap.size<=S:=by
     rcases c with e | e
     ·exact hN S e
     ·have:=K6.out.size;simp at e this;omega
    have U:Hid ((go a).n+1=(a++[(⟨1,0,⟨f,g,d⟩⟩:nF)]).length):=by show _=_;simp[go]
    rw[U.out];clear p c D;go_wp2
    go_roundg (w[b].Vh.length-(i+1))
    case measure=>omega
    case rel=>exact⟨i+1,a++[⟨1,0,⟨f,g,d⟩⟩],⟨some ⟨S,0,none⟩,C⟩,by omega,rfl,by go_num,rfl,by simp;omega,z,H,by intro x h;simp[Hd.blk]at h;omega,V⟩
  ·have z:Hid (fL w b w[b].fin w[b].Vh []=if a.length=0 then([],(1,w[b].fin)) else(a,cY)):=hR.out.trans (IZ w b w[b].fin i w[b].Vh a Y)
   have t3:wr.cell? ⟨Q.heap.size,3,none⟩=some (.slice AO w[b].Vh.length (k (11+2*b)).cap):=by rw[aa B2,B.out];rfl
   have t4:wr.cell? ⟨Q.heap.size,4,none⟩=some (.string w[b].fin.file):=by rw[aa B2,B.out];rfl
   have t5:wr.cell? ⟨Q.heap.size,5,none⟩=some (.int .i64 w[b].fin.line):=by rw[aa B2,B.out];rfl
   have t6:wr.cell? ⟨Q.heap.size,6,none⟩=some (.int .i64 w[b].fin.col):=by rw[aa B2,B.out];rfl
   clear hR J
   by_cases hz:a.length=0
   ·have M:((a.length:Int)==0)=true:=by simp[hz]
    have A:Hid (fL w b w[b].fin w[b].Vh []=([],(1,w[b].fin))):=by show _=_;rw[z.out,QW hz]
    clear z hz
    go_upto_region 15 with fail
    go_region
    all_goals go_wp2
    all_goals exact QY (v:=.tuple #[.slice none 0 0,.agg #[.int .i64 1,.string w[b].fin.file,.int .i64 w[b].fin.line,.int .i64 w[b].fin.col]]) (by simp[results,results139,go_sem,z0,z1,z2,z3]) rfl ⟨⟨none,0⟩,by rw[A.out];rfl,by rw[A.out];exact QZ _ _ _ _,by intro x h;simp[Hd.blk]at h,(kH KW (QR _) _ _ _ _).drew⟩
   ·have M:((a.length:Int)==0)=false:=Rh.2 (by omega)
    have A:Hid (fL w b w[b].fin w[b].Vh []=(a,cY)):=by show _=_;rw[z.out,QT hz]
    clear z hz;go_wp2
    exact QY (v:=.tuple #[.slice m.ao a.length m.cap,.agg #[.int .i64 0,.string ⟨#[]⟩,.int .i64 0,.int .i64 0]]) (by simp[results,results139,go_sem,z0,z1,z2,z3]) rfl
     ⟨m,by rw[A.out];rfl,by rw[A.out];exact hO.Vg (fun x h=>(ji (r:=T.heap.size) _ _ _ _).block x (hO.lt h) (by simp;rintro rfl;have:=hN _ h;omega)),fun x h=>Q3 a0 (hN x h),kH KW (QR _) _ _ _ _⟩
def tD:List (ByteArray×Pl)->mg->pA×mg
 | [],c=>(cY,c)
 | (t,p) :: r,c=>if((mT t p c).1.1==0)=true then tD r (mT t p c).2 else mT t p c
def Gz(f:pA)(ws:List (ByteArray×Pl))(c:mg):pA×mg:=if(f.1==0)=true then tD ws c else(f,c)
theorem Pm(c:mg)(i:Nat)(a:i<D.length)(h:(yg.1==0)=true):Gz yg (D.drop i) c=Gz (mT D[i].1 D[i].2 c).1 (D.drop (i+1)) (mT D[i].1 D[i].2 c).2:=by
 unfold Gz;rw[QW h,Rf a];rfl
theorem NQ(c:mg)(i:Nat)(a:¬i<D.length)(h:(yg.1==0)=true):Gz yg (D.drop i) c=(cY,c):=by
 unfold Gz;rw[QW h,R8 (by omega)];rfl
theorem GA(c:mg)(h:(yg.1==0)=false):Gz yg D c=(yg,c):=by
 unfold Gz;rw[QT (by rw[h];simp)]
theorem yj(b:List (ByteArray×Pl))(i:Nat)(a:List Nat):(dD w g I i b a).1.1<=i+b.length/\(dD w g I i b a).2.length<=a.length+b.length:=by
 induction b generalizing i a with
 | nil=>simp[dD]
 | cons x r c =>
  obtain⟨t,p⟩:=x;rw[dD]
  split
  ·simp
  ·split
   ·simp
   ·split
    ·simp
    ·next n _ _=>have:=c (i+1) (a++[n]);simp at this ⊢;omega
theorem gu.mono{c:mg}{M:Nat}(h:gu c H)(k:H<=M):gu c M:=⟨Q3 h.names k,Q3 h.Vj k,Q3 h.steps k,by have:=h.Vd;omega,h.behind⟩
theorem FI(f:Nat):∀(j:Nat) (c:mg) (N:Nat),gu c (N+j)->j<=zb.size->gu (iQ zb I f j c).2 (N+zb.size):=by
 induction f with
 | zero=>intro j c N h d;exact h.mono (by omega)
 | succ f g =>
  intro j c N h d;rw[iQ]
  split
  ·next e =>
   have a:=h.letter (aF zb j).toNat { I with col:=I.col+j }
   split
   ·exact g (j+1) _ N (by rw[<-U3];exact a) (by omega)
   ·exact a.mono (by omega)
  ·exact h.mono (by omega)
theorem zr{c:mg}(h:gu c H):gu (mT zb I c).2 (H+zb.size):=FI zb I _ 0 c H h (Ro _)
def kt(ws:List (ByteArray×Pl)):Nat:=(ws.map (fun x=>x.1.size)).sum
theorem Fd(a:l<D.length):kt (D.drop l)=D[l].1.size+kt (D.drop (l+1)):=by
 have e:=Rf a;simp only[kt];rw[e];rfl
theorem C2(a:List (ByteArray×Pl))(i:Nat):kt (a.drop i)<=kt a:=by
 induction i generalizing a with
 | zero=>simp
 | succ i b =>
  cases a with
  | nil=>simp
  | cons x r=>have:=b r;simp[kt]at this ⊢;omega
structure yc(s:St):Prop where
 size:kt s.Vh<=1000000
 col:∀x∈s.Vh,-1000000000<=x.2.col/\x.2.col<=1000000000
def Gb(l:List St)(a:Nat)(s:St):pA×mg :=
 Gz (dD l a s.fin 1 (s.Vh.drop 1) (aK l a)).1.2 (s.Vh.drop (dD l a s.fin 1 (s.Vh.drop 1) (aK l a)).1.1) ⟨(dD l a s.fin 1 (s.Vh.drop 1) (aK l a)).2,[],[],0,false⟩
def uF(fin:Pl)(R:pA×mg):List nF×pA :=
 if(R.1.1==0)=true then
  (if R.2.Vd=0 then(if R.2.steps.length=0 then([],(1,fin)) else(R.2.steps,cY)) else([],(4,fin)))
 else([],R.1)
def lK(l:List St)(a:Nat)(s:St):List nF×pA:=uF s.fin (Gb l a s)
def xL(hd:Hd):Nat->Hd
 | 0=>hd
 | _+1=>⟨none,0⟩
theorem Nf{cs:List Value}{rows:Nat->dN}(o:aw n z6 (rows 0))(d:∀i,aw (n.alloc (.cells cs.toArray H)) ⟨none,0⟩ (rows (i+1))):a8 (n.alloc (.cells cs.toArray H)) n.heap.size H cs rows (xL z6):=by
 refine⟨QS _ _,?_,?_,?_⟩
 ·intro i
  cases i with
  | zero=>exact o.Vg (fun x c=>((ab.refl [] n).alloc _).block x (o.lt c) (by simp))
  | succ i=>exact d i
 ·intro i j a
  cases i with
  | zero =>
   cases j with
   | zero=>exact absurd rfl a
   | succ j =>
    have b:(xL z6 (j+1)).blk=none:=rfl;rw[b,show xL z6 0=z6 from rfl]
    cases h:z6.blk with
    | none=>exact Q1 rfl
    | some x=>right;simp
  | succ i=>left;rfl
 ·intro i
  cases i with
  | zero=>intro e;have:=o.lt e;omega
  | succ i=>intro e;simp[xL,Hd.blk]at e
theorem NP(h:f9 (xL z6) H):z6.blk=some H:=by
 obtain⟨i,a⟩:=h
 cases i with
 | zero=>exact a
 | succ i=>simp[xL,Hd.blk]at a
def x9(p:Pl):Prop:=(-1000000000<=p.col/\p.col<=1000000000)/\Ko p
structure Gd(d:Db)(m:Nat):Prop where
 bnd:nE d m
 now:kt d.Vh<=m/\∀x∈d.Vh,x9 x.2
 Vn:∀s∈d.Vn,0<s.U6.length/\s.U6.length<=m/\s.Vh.length<=m/\kt s.Vh<=m/\(∀x∈s.Vh,x9 x.2)/\x9 s.fin
theorem Fe(x:ByteArray×Pl):kt (D++[x])=kt D+x.1.size:=by
 simp[kt]
theorem EC{s:St}(h:s∈gy M H):∃s'∈M,s.U6=s'.U6/\s.Vh=s'.Vh/\s.fin=s'.fin:=by
 unfold gy fD at h;rw[List.mem_mapIdx]at h;obtain⟨i,a,rfl⟩:=h;refine⟨M[i],Rb a,?_⟩
 split
 ·unfold lM;split <;> exact⟨rfl,rfl,rfl⟩
 ·exact⟨rfl,rfl,rfl⟩
theorem Gd.take{d:Db}(h:Gd d H)(x:ByteArray)(p:Pl)(n:Nat)(A:x.size<=n)(w:1<=n)(m:x9 p):Gd (aX d x p).2 (H+n):=by
 have t:=(h.bnd.take x p).mono (m':=H+n) (by omega);have z:=h.bnd.Vh;have u:=h.bnd.U8;refine⟨t,?_,?_⟩
 ·rcases Ft d x p with e | e | e
  ·rw[e];exact⟨by have:=h.now.1;omega,h.now.2⟩
  ·rw[e];exact⟨by simp[kt],by simp⟩
  ·rw[e]
   refine⟨by rw[Fe];have:=h.now.1;simp only;omega,fun y g=>?_⟩
   rcases Rr.1 g with g | g
   ·exact h.now.2 y g
   ·rw[Q9.1 g];exact m
 ·rcases Dd d x p with e | ⟨y,_,e⟩ | ⟨e,f⟩
  ·rw[e]
   intro s a;obtain⟨b,j,k,l,c⟩:=h.Vn s a;exact⟨b,by omega,by omega,by omega,c⟩
  ·rw[e]
   intro s a;obtain⟨v,i,o,q,r⟩:=EC a;obtain⟨b,j,k,l,c⟩:=h.Vn v i;rw[o,q,r];exact⟨b,by omega,by omega,by omega,c⟩
  ·rw[e]
   intro s a
   rcases Rr.1 a with a | a
   ·obtain⟨b,j,k,l,c⟩:=h.Vn s a
    exact⟨b,by omega,by omega,by omega,c⟩
   ·rw[Q9.1 a]
    exact⟨f,by simp only;omega,by simp only;omega,by have:=h.now.1;simp only;omega,h.now.2,m⟩
theorem Gd.empty:Gd fm 0:=⟨nE.empty,by simp[fm,kt],by simp[fm]⟩
theorem xd(c:l<=L.size):(bC L l).1.text.size<=(bC L l).2-l/\(bC L l).1.pos<=L.size:=by
 have a:=AB L l c;have b:=rQ L (skip L l) a.2;unfold bC;simp only
 split
 ·exact⟨by simp[ByteArray.size],b.2⟩
 ·split
  ·exact⟨by simp[ByteArray.size],by simp only;omega⟩
  ·refine⟨?_,by simp only;omega⟩
   simp only[ByteArray.size_extract];omega
theorem vQ(k:Nat)(a:k<=L.size):(aW L k).1.pos<=L.size:=by
 unfold aW;generalize L.size-k+1=f
 induction f generalizing k with
 | zero=>simp[bX,a]
 | succ f c =>
  have b:=(xd L k a).2;have d:=gq L k a;rw[bX]
  split
  ·split
   ·exact b
   ·exact c (bC L k).2 d.2.1
  ·split
   ·exact b
   ·exact b
theorem EI(k:Nat)(a:k<=L.size):(aI (ay L k).1=true->(ay L k).1.text.size<=(ay L k).2-k)/\(ay L k).1.pos<=L.size:=by
 unfold ay;generalize L.size-k+1=f
 induction f generalizing k with
 | zero=>exact⟨fun h=>by simp[dH,aI]at h,by simp[dH,a]⟩
 | succ f i =>
  have c:=xd L k a;have b:=gq L k a;rw[dH]
  split
  ·have d:=i9 L (bC L k).2 b.2.1
   have e:=vQ L (bC L k).2 b.2.1
   split
   ·have:=i _ d.2
    exact⟨fun h=>by have:=this.1 h;omega,this.2⟩
   ·next g=>exact⟨fun h=>absurd h g,e⟩
  ·exact⟨fun _=>c.1,c.2⟩
theorem KZ(c:l<=1024):x9 (kK zb L l):=by
 have a:=zL L l;have b:=Ai L l;unfold x9 Ko kK;simp only;omega
def MZ(fs:Fs)(bg:List Bool)(m:Nat)(r:FP):Prop :=
 r.2.1.length=4/\dP fs r.2.1<=dP fs bg/\∃m',Gd r.2.2 m'/\m'+dP fs r.2.1<=m+dP fs bg
theorem If(a:∀j,j<v.length->(ak v j).size<=1024)(x:Nat):(ak v x).size<=1024:=by
 rcases UR x v.length with h | h
 ·exact a x h
 ·have:(ak v x).size=0:=by unfold ak;rw[QQ,Rx h];rfl
  omega
theorem JS(n:∀j,j<v.length->(ak v j).size<=1024)(f:Nat)(q:∀j a d m,a.length=4->Gd d m->MZ v a m (cn v f j a d))(x k:Nat)(a:List Bool)(d:Db)(m:Nat)(o:k<=(ak v x).size)(l:a.length=4)(h:Gd d m)(p:aI (ay (ak v x) k).1=true) :
  MZ v a (m+((ay (ak v x) k).2-k)) (fZ v f x k a d).1/\(ay (ak v x) k).2<=(fZ v f x k a d).2/\(fZ v f x k a d).2<=(ak v x).size:=by
 have c:=fG (ak v x) k o;have u:=c.2.2 p;have w:=EI (ak v x) k o;have e:=If v n x;unfold fZ jN
 split
 ·unfold mX
  split
  ·exact⟨⟨l,QR _,m,h,by simp only;omega⟩,QR _,c.2.1⟩
  ·next j B b =>
   have g:=q j a d m l h;refine⟨⟨g.1,g.2.1,?_⟩,?_⟩
   ·obtain⟨t,y,A⟩:=g.2.2;exact⟨t,y,by simp only;omega⟩
   ·unfold rx at b
    have s:=fG (ak v x) (ay (ak v x) k).2 c.2.1;have z:=fG (ak v x) (ay (ak v x) (ay (ak v x) k).2).2 s.2.1
    repeat' split at b
    all_goals first | (cases b;done) | skip
    injection b with b
    injection b with r i
    subst i;omega
 ·refine⟨⟨l,QR _,m+((ay (ak v x) k).2-k),h.take _ _ _ (w.1 p) (by omega) (KZ _ _ _ (by omega)),by simp only;omega⟩,QR _,c.2.1⟩
theorem Nu(p:∀j,j<v.length->(ak v j).size<=1024)(f:Nat):(∀x k a d m,k<=(ak v x).size->a.length=4->Gd d m->(bq v f x k a d).2.1.length=4/\dP v (bq v f x k a d).2.1<=dP v a/\∃c,Gd (bq v f x k a d).2.2 c/\c+dP v (bq v f x k a d).2.1<=m+((ak v x).size-k)+dP v a) /\
  (∀j a d m,a.length=4->Gd d m->MZ v a m (cn v f j a d)):=by
 have b:∀f,(∀x k a d m,k<=(ak v x).size->a.length=4->Gd d m->(bq v f x k a d).2.1.length=4/\dP v (bq v f x k a d).2.1<=dP v a/\∃c,Gd (bq v f x k a d).2.2 c/\c+dP v (bq v f x k a d).2.1<=m+((ak v x).size-k)+dP v a) ->
   (∀j a d m,a.length=4->Gd d m->MZ v a m (cn v f j a d)):=by
  intro f h j a d m e g;unfold cn
  split
  ·exact⟨e,QR _,m,g,QR _⟩
  ·next y =>
   have n:a.getD j true=false:=by simpa using y
   have G:=wG v a j e n;have:=h j 0 (a.set j true) d m (Ro _) (by simpa using e) g;refine⟨this.1,by omega,?_⟩;obtain⟨c,A,I⟩:=this.2.2;exact⟨c,A,by omega⟩
 induction f with
 | zero =>
  have q:∀x k a d m,k<=(ak v x).size->a.length=4->Gd d m->(bq v 0 x k a d).2.1.length=4/\dP v (bq v 0 x k a d).2.1<=dP v a/\∃c,Gd (bq v 0 x k a d).2.2 c/\c+dP v (bq v 0 x k a d).2.1<=m+((ak v x).size-k)+dP v a:=by
   intro x k a d m o e g;exact⟨e,QR _,m,g,by simp only[bq];omega⟩
  exact⟨q,b 0 q⟩
 | succ f s =>
  have r:∀x k a d m,k<=(ak v x).size->a.length=4->Gd d m->(bq v (f+1) x k a d).2.1.length=4/\dP v (bq v (f+1) x k a d).2.1<=dP v a/\∃c,Gd (bq v (f+1) x k a d).2.2 c/\c+dP v (bq v (f+1) x k a d).2.1<=m+((ak v x).size-k)+dP v a:=by
   intro x k a d m o e g
   cases l:aI (ay (ak v x) k).1 with
   | true =>
    have H:=fG (ak v x) k o;have F:=JS v p f s.2 x k a d m o e g l;obtain⟨⟨u,D,t,w,L⟩,M,E⟩:=F
    cases i:((fZ v f x k a d).1.1.1==0) with
    | true =>
     rw[yD v f x k a d l i];obtain⟨B,J,z,C,K⟩:=s.1 x (fZ v f x k a d).2 (fZ v f x k a d).1.2.1 (fZ v f x k a d).1.2.2 t E u w;exact⟨B,by omega,z,C,by omega⟩
    | false =>
     rw[ox v f x k a d l i];exact⟨u,D,t,w,by omega⟩
   | false =>
    by_cases i:(ay (ak v x) k).1.fin=true/\kp d=false
    ·rw[zW v f x k a d l i.1 i.2];exact⟨e,QR _,m,g,by simp only;omega⟩
    ·rw[wk v f x k a d l i];exact⟨e,QR _,m,g,by simp only;omega⟩
  exact⟨r,b (f+1) r⟩
def PQ(l:List St):Prop:=∀s∈l,Ko s.fin/\∀x∈s.Vh,Ko x.2
structure Qs(l:List St):Prop where
 ok:iH l
 prf:∀i (hi:i<l.length),yc l[i]
 lns:PQ l
theorem wT(c:∀j,j<v.length->(ak v j).size<=1024)(k:Nat):Qs (bK v k).2.2.Vn:=by
 obtain⟨_,_,m,a,l⟩:=(Nu v c 5000).2 k F3 fm 0 rfl Gd.empty;have g:=Al v c F3;have f:m<=4104:=by omega
 have h:=a.bnd.Vn;unfold bK;refine⟨⟨by omega,fun i b=>?_,fun i b=>?_,fun i b=>?_⟩,fun i b=>⟨?_,?_⟩,?_⟩
 ·exact(a.Vn _ (Rb b)).1
 ·have:=(a.Vn _ (Rb b)).2.1;omega
 ·have:=(a.Vn _ (Rb b)).2.2.1;omega
 ·have:=(a.Vn _ (Rb b)).2.2.2.1;omega
 ·exact fun x d=>((a.Vn _ (Rb b)).2.2.2.2.1 x d).1
 ·exact fun s e=>⟨(a.Vn s e).2.2.2.2.2.2,fun x d=>((a.Vn s e).2.2.2.2.1 x d).2⟩
end Go.Proofs.YtpddjjabfbfifaaGreat
