import Derived.Maps.AppendAt
import Derived.Test.YtnbalopedcgpcaaGreatG15
namespace Go.Proofs.YtnbalopedcgpcaaGreat
open Go.RowKit Tryz
open Value renaming int->Xx,string->Xy,slice->Xz,pointer->XA,bool->XC
open Obj renaming cells->XE
open IntKind renaming i64->XF
open Ending renaming returned->XH
open World renaming cell?->XI
open Option renaming none->XJ,some->XK
open Bool renaming true->XL,false->XM
open Go.RowKit renaming Hid->XN
open Go renaming Calls->XO,World->XP,Value->XQ
set_option maxHeartbeats 0
variable{S N:XP}{z6:Hd}{D:List ByteArray}{f d I z1 z7:Nat}{o:Nat->Hd}{m s:List Nat}{M:Nat->List Nat}(z2 z8 y3 z0 z3 x:Nat)(w:List ByteArray)(L:List Bool)(l:List Ex)(y:Nat->Hd)(z4 z5 a:Hd)(i:List (List ByteArray))(v b:List ByteArray)(n:List Nat)(H:Nat)(T:XP)
theorem pN{P:Program}{y:Array Oper}{l:List Oper}{o:Oper}{a:Act}{Q:Exit->Act->XP->Prop}(V:o.guard=XJ)(s x:Operand)(t:TypeId)(E:o.op=Op.call { callee:=Callee.builtin Builtin.append,args:=#[s,x],argTypes:=#[t,t] })(i:TypeInfo)(z:XQ)(d:Nat)(h:Hd)(r:fe)(K:P.underlying t=XK (.slice r.e))(L:P.info? r.e=XK i)(M:i.zero=XK z)(N:i.size=r.size)(O:i.bytes=d)(R:z.cells.size=r.size)(S:0<r.size)(X:a.eval s=Xz h.ao r.n h.cap)(w:aE T h r)(B:Addr)(m c:Nat)(b:List XQ)(Y:a.eval x=Xz (XK B) m c)(W:b.length=m*r.size)(U:∀j u,b[j]?=XK u->T.cell? (B.add j)=XK u)(D:∀u∈b,u.oneCell'=XL)(I:r.n+m<=maxLen)(J:(r.n+m)*d<=140737488355328)(H:∀f p,aE p f ⟨r.e,r.size,r.n+m,r.xs++b⟩->T.grownBy p h.blk->(f.blk=h.blk∨f.blk=XK T.heap.size)->wpList P y Q l (a.put o.dst (Xz f.ao (r.n+m) f.cap)) p) :
  wpList P y Q (o :: l) a T:=by
 refine wpList_append_own_at T V s x t E 0 r.e i z r.size d K L M N O R S (Xz h.ao r.n h.cap) r.n r.xs X w B m c b Y W U D I J (Qx _) ?_;intro v' p F G Z A;rw[xg]at G A;rcases F.2 with ⟨q,v⟩ | ⟨g,k,C,q,v⟩
 ·have:=H ⟨XJ,0⟩ p ⟨F.1,P0 ⟨by rw[v],v⟩⟩ G (by rw[q]at A;exact A);rw[q];rw[v]at this;exact this
 ·have:=H ⟨XK ⟨g,0,XJ⟩,k⟩ p ⟨F.1,P7 ⟨g,k,C,rfl,v⟩⟩ G (by rw[q]at A;exact A);rw[q];exact this
def lr(vs:List ByteArray)(bs:List (List ByteArray))(x:ByteArray):List ByteArray:=match aZ vs x with | none=>[x] | some i=>bs.getD i []
def eC(vs:List ByteArray)(bs:List (List ByteArray)):List ByteArray->List ByteArray->List ByteArray
 | [],acc=>acc
 | x :: r,acc=>if acc.length<=32 then eC vs bs r (acc++lr vs bs x) else acc
def gS(vs:List ByteArray)(bs:List (List ByteArray))(sy:List ByteArray):List ByteArray:=eC vs bs sy []
theorem LX(c:H<v.length)(a:b.length<=32):eC w i (v.drop H) b=eC w i (v.drop (H+1)) (b++lr w i v[H]):=by
 rw[Qr c,eC,PZ a]
theorem F0(a:¬b.length<=32):eC w i v b=b:=by
 cases v with
 | nil=>rfl
 | cons x r=>rw[eC,PV a]
theorem Ju(a:¬H<v.length):eC w i (v.drop H) b=b:=by
 rw[Q4 (by omega)];rfl
theorem He(x:ByteArray)(M:Nat)(a:1<=M)(h:∀b∈i,b.length<=M):(lr w i x).length<=M:=by
 unfold lr;split
 ·simpa using a
 ·next c _ =>
  rw[PK];cases e:i[c]? with
  | none=>simp
  | some b=>simpa using h b (Qp e)
theorem Cy(e:1<=H)(h:∀b∈i,b.length<=H)(d a:List ByteArray)(c:a.length<=32+H):(eC w i d a).length<=32+H:=by
 induction d generalizing a with
 | nil=>exact c
 | cons x r f =>
  rw[eC];split
  ·have:=He w i x H e h;exact f _ (by simp;omega)
  ·exact c
theorem FY(c:1<=H)(h:∀b∈i,b.length<=H)(a:List ByteArray):(gS w i a).length<=32+H:=Cy w i H c h a [] (by simp)
theorem Gc:(⟨(au v).e,(au v).size,(au v).n+b.length,(au v).xs++strs b⟩:fe)=au (v++b):=by simp[au,strs]
theorem cE.cells{d:Addr}(v:cE S z6 D)(e:z6.ao=XK d):∀j u,(strs D)[j]?=XK u->S.cell? (d.add j)=XK u:=by
 intro j u i;rcases v with rfl | ⟨g,a,k,t,f,l,m,-⟩
 ·simp[strs]at i
 ·rw[e]at f;cases f
  have b:(D[j]?).map Xy=XK u:=by simpa [strs] using i
  cases c:D[j]? with
  | none=>rw[c]at b;cases b
  | some x =>
   rw[c]at b;cases b;have:(⟨g,a,XJ⟩:Addr).add j=⟨g,a+j,XJ⟩:=by
    simp only[Addr.add];split
    ·next n=>subst n;rfl
    ·rfl
   rw[this,ab l];exact m j x c
set_option maxRecDepth 100000
theorem qU(h:jf T x w l y)(hl:w.length<=10000)(aq:∀e∈l,e.xs.length<=10000)(hv:cE T a b)(az:b.length<=10000) :
  XO prog 211 #[XA (XK ⟨x,0,XJ⟩),Xz a.ao b.length a.cap] T fun e w'=>∃q:Hd,
   e=XH (Xz q.ao (gS w (l.map Ex.xs) b).length q.cap)/\aE w' q (au (gS w (l.map Ex.xs) b))/\(∀o,q.blk=XK o->T.heap.size<=o)/\aa [] T w':=by
 obtain⟨i0,hi,Z,ac,ag⟩:=Qq ey;obtain⟨ao,a2⟩:=a;rcases hv with rfl | ⟨g,ah,a3,t,e1,e2,e3,e4,e5⟩
 ·clear az;go_enter func211,ntmps211;go_wp2;refine Rg 1 ?_;rw[RM];go_wp2;go_ret;exact⟨⟨XJ,0⟩,rfl,Qj _ _ _ _,by intro o z;simp[Hd.blk]at z,aa.refl _ _⟩
 simp only at e1 e4 e5;subst e1;obtain⟨R,HR⟩:∃R,XN (R=gS w (l.map Ex.xs) b):=⟨_,rfl⟩
 rw[<-HR.out];go_enter func211,ntmps211;go_wp2
 go_loopg [5,6] b.length (fun gk sv i wr=>∃(k:Nat) (q:Hd) (c:List ByteArray),k<=b.length/\gk=b.length-k/\i=Xx XF k/\sv=Xz q.ao c.length q.cap/\c.length<=10032/\XN (R=eC w (l.map Ex.xs) (b.drop k) c)/\aE wr q (au c)/\(∀o,q.blk=XK o->T.heap.size<=o)/\aa [] T wr)
 case atStart=>exact⟨0,⟨XJ,0⟩,[],by omega,by omega,rfl,rfl,by simp,HR.out,Qj _ _ _ _,by intro o z;simp[Hd.blk]at z,aa.refl _ _⟩
 case round =>
  obtain⟨k,q,c,hk,hg,rfl,rfl,a4,s,Q,L,E⟩:=hrel;have U:=h.Ur E;by_cases J:k<b.length
  ·by_cases ha:c.length<=32
   ·have ap:(c.length:Int)<=32:=(by omega);have c2:XI wr ⟨g,ah+k,XJ⟩=XK (Xy b[k]):=(ab (E.get e2 (by simp)) (ah+k)).trans (e3 k b[k] (PJ J));have A:XN _:=s.out.trans (LX w (l.map Ex.xs) b c k J ha);have N:XN _:=(fun w1 h1=>Gq x w l y b[k] w1 h1 (by omega));clear s e3;generalize b[k]=C at *;rcases hp:aZ w C with _ | p
    ·have f:XN (R=eC w (l.map Ex.xs) (b.drop (k+1)) (c++[C])):=(by show _=_;rw[A.out];simp[lr,hp]);have S:=Q.Uw (fun o z=>((aa.refl [] wr).alloc (XE #[Xy C] 9)).block o (Q.lt z) (by simp));clear A;(go_upto_region 7 with (go_at_call 215;refine(N.out _ U).mono ?_;rintro e w3 ⟨rfl,K⟩;rw[K,hp];simp only[eT]));go_wp2_with (at_builtin;refine aD _ rfl (.tmp 27) (.tmp 32) 22 rfl i0 (Xy ⟨#[]⟩) 16 q (au c) underlying22 hi Z ac ag rfl Qf rfl (by exact S) ⟨_,0,XJ⟩ 1 1 [Xy C] rfl rfl ?d1 ?d2 Qf ?d3 ?d4 ?_)
     case d1=>intro j u hj;match j,hj with | 0,hj=>simp at hj;subst hj;simp[Addr.add]
     case d2=>intro u Y;simp at Y;subst Y;rfl
     case d3=>simp only[au];unfold maxLen;omega
     case d4=>simp only[au];omega
     intro g5 O w5 v m d;rw[bJ c C]at v;have P:=E.alloc (XE #[Xy C] 9);have F:=P.grown m L;have W:T.heap.size<=g5:=by
      rcases d with e | e
      ·exact L g5 e
      ·have:=P.size;simp at e this;omega
     have D:XN ((au c).n+1=(c++[C]).length):=(by show _=_;simp[au]);rw[D.out];clear m d S;go_wp2;go_roundg (b.length-(k+1))
     case measure=>omega
     case rel=>exact⟨k+1,⟨XK ⟨g5,0,XJ⟩,O⟩,c++[C],by omega,rfl,by go_num,rfl,by simp;omega,f.out,v,by intro o z;simp[Hd.blk]at z;omega,F⟩
    ·have a6:p<w.length:=by
      have:=Qm hp;simpa using this
     have a5:=h.len;have B:p<l.length:=(by omega);have f:XN (R=eC w (l.map Ex.xs) (b.drop (k+1)) (c++l[p].xs)):=(by show _=_;rw[A.out];simp[lr,hp,B]);have I:=U.exs l[p] (PT B);have av:=aq l[p] (PT B);obtain⟨ad,H⟩:=I.adr;have X:=I.view.cells H;obtain⟨s0,s1⟩:=U.cells;have G:aE wr (y 1) (dv l):=U.bag.own 1;rcases G.UC with ⟨_,h0,_⟩ | ⟨gb,a0,eb,-,ai,-⟩
     ·have:l.length=0:=h0;omega
     have cb:=G.cell eb p (rF l[p]) (oO l p B);have a1:l.length<=(y 1).cap:=ai;rw[eb]at s1;unfold rF at cb;rw[H]at cb;have M:XN _:=X;clear A I H X G eb;generalize l[p]=ex at *;obtain⟨am,r⟩:=ex;simp only at cb av f M;(go_upto_region 8 with (go_at_call 215;refine(N.out _ U).mono ?_;rintro e w3 ⟨rfl,K⟩;rw[K,hp];simp only[eT]));go_wp2_with (at_builtin;refine pN _ rfl (.tmp 34) (.tmp 41) 22 rfl i0 (Xy ⟨#[]⟩) 16 q (au c) underlying22 hi Z ac ag rfl Qf rfl (by exact Q) ad r.length am.cap (strs r) rfl (by simp[strs,au]) M.out ?d2 ?d3 ?d4 ?_)
     case d2=>intro u Y;simp[strs]at Y;obtain⟨_,_,rfl⟩:=Y;rfl
     case d3=>simp only[au];unfold maxLen;omega
     case d4=>simp only[au];omega
     intro V w5 v m d;rw[Gc c r]at v;have F:=E.grown m L;have W:∀o,V.blk=XK o->T.heap.size<=o:=by
      intro o z;rcases d with e | e
      ·exact L o (e ▸ z)
      ·rw[e]at z;cases z;exact E.size
     have D:XN ((au c).n+r.length=(c++r).length):=(by show _=_;simp[au]);rw[D.out];clear m d;go_wp2;go_roundg (b.length-(k+1))
     case measure=>omega
     case rel=>exact⟨k+1,V,c++r,by omega,rfl,by go_num,rfl,by simp;omega,f.out,v,W,F⟩
   ·have ap:¬(c.length:Int)<=32:=(by omega);have f:XN (c=R):=(s.out.trans (F0 _ _ _ _ ha)).symm;clear s e3;go_wp2;go_ret;exact⟨q,by rw[<-f.out];rfl,by rw[<-f.out];exact Q,L,E⟩
  ·have f:XN (c=R):=(s.out.trans (Ju _ _ _ _ _ J)).symm;clear s e3;go_wp2;go_ret;exact⟨q,by rw[<-f.out];rfl,by rw[<-f.out];exact Q,L,E⟩
def i6(s:St)(e:List ByteArray)(S:List ByteArray×List (List ByteArray)):Int×List ByteArray×List (List ByteArray) :=
 if(s.kind==3)=XL then(if wD (gS S.1 S.2 s.Um) e=XL then(0,S) else(8,S))
 else match e with
  | []=>(7,S)
  | x :: r=>if(x.toList==(ax s).toList)=XL then(0,S.1++[ak s],S.2++[r]) else(7,S)
structure nj(w:XP)(b:Nat)(H:Nat->Hd)(h:Hd)(l:List ByteArray):Prop where
 view:cE w h l
 far:∀x,h.blk=XK x->x<w.heap.size/\x≠b/\¬cD H x
theorem nj.Ur(a:nj S f o z6 D)(k:aa [] S N):nj N f o z6 D :=
 ⟨a.view.Ur k,fun x b=>⟨PY (a.far x b).1 k.size,(a.far x b).2⟩⟩
def fO(g off cap:Nat)(r:List ByteArray):Ex:=⟨⟨if cap=1 then XK ⟨g,off,XJ⟩ else XK ⟨g,off+1,XJ⟩,cap-1⟩,r⟩
theorem J3:(fO z0 z3 x b).hd.blk=XK z0:=by unfold fO Hd.blk;simp only;split <;> rfl
theorem Mo{x:ByteArray}(h:nj S f o ⟨XK ⟨d,I,XJ⟩,H⟩ (x :: D)):pQ S f o (fO d I H D):=by
 have n:(fO d I H D).hd.blk=XK d:=by unfold fO Hd.blk;simp only;split <;> rfl
 refine⟨?_,?_,fun y a=>h.far y (by rw[n]at a;exact a)⟩
 ·by_cases c:D=[]
  ·subst c;exact P0 rfl
  ·rcases h.view with p | ⟨q,e,b,t,g,i,k,l,m⟩
   ·cases p
   ·cases g
    have r:0<D.length:=List.length_pos_iff.2 c;simp only[List.length_cons]at l;refine P7 ⟨d,I+1,b,t,by simp only[fO];rw[PV (by omega)],i,fun j y a=>?_,by simp only[fO];omega,by simp only[fO]at m ⊢;omega⟩;have:=k (j+1) y (by simpa [fO] using a);rw[show I+1+j=I+(j+1) by omega];exact this
 ·unfold fO;simp only;split
  ·exact⟨_,rfl⟩
  ·exact⟨_,rfl⟩
theorem Lk(s:St)(i z N:Hd)(D:List ByteArray)(b:XP)(h:jf b x w l y)(hl:w.length<=9999)(Z:∀e∈l,e.xs.length<=10000)(hs:cE b i s.Um)(a5:s.Um.length<=10000)(hx:nj b x y N D)(bx:D.length<=10000) :
  XO prog 209 #[XA (XK ⟨x,0,XJ⟩),bW s i z,Xz N.ao D.length N.cap] b fun e d=>∃(Q:List Ex) (H':Nat->Hd),
   e=XH (Xx XF (i6 s D (w,l.map Ex.xs)).1)/\jf d x (i6 s D (w,l.map Ex.xs)).2.1 Q H'/\Q.map Ex.xs=(i6 s D (w,l.map Ex.xs)).2.2/\aj x b y d H'/\∀e∈Q,e∈l∨e.hd.blk=N.blk:=by
 obtain⟨i0,hi,bc,bd,bf⟩:=Qq ey;obtain⟨i1,a2,a7,a8,a9⟩:=Qq wM;have bv:l.length<=9999:=by have:=h.len;omega
 unfold bW;obtain⟨W,hW⟩:∃W,W=b.alloc (XE #[Xx XF s.kind,Xy s.label,Xz i.ao s.Um.length i.cap,Xz z.ao s.Ux.length z.cap,Xy s.fin.file,Xx XF s.fin.line,Xx XF s.fin.col,Xx XF s.til] 110):=⟨_,rfl⟩
 have K:aa [] b W:=by rw[hW];exact(aa.refl [] _).alloc _
 have B:W.heap[b.heap.size]?=XK (XE #[Xx XF s.kind,Xy s.label,Xz i.ao s.Um.length i.cap,Xz z.ao s.Ux.length z.cap,Xy s.fin.file,Xx XF s.fin.line,Xx XF s.fin.col,Xx XF s.til] 110):=by rw[hW];exact PM _ _
 have HW:XN _:=hW.symm;have u0:XI W ⟨b.heap.size,0,XJ⟩=XK (Xx XF s.kind):=by rw[ab B];rfl
 have u1:XI W ⟨b.heap.size,1,XJ⟩=XK (Xy s.label):=by rw[ab B];rfl
 have u2:XI W ⟨b.heap.size,2,XJ⟩=XK (Xz i.ao s.Um.length i.cap):=by rw[ab B];rfl
 have u3:XI W ⟨b.heap.size,3,XJ⟩=XK (Xz z.ao s.Ux.length z.cap):=by rw[ab B];rfl
 have u4:XI W ⟨b.heap.size,4,XJ⟩=XK (Xy s.fin.file):=by rw[ab B];rfl
 have u5:XI W ⟨b.heap.size,5,XJ⟩=XK (Xx XF s.fin.line):=by rw[ab B];rfl
 have u6:XI W ⟨b.heap.size,6,XJ⟩=XK (Xx XF s.fin.col):=by rw[ab B];rfl
 have u7:XI W ⟨b.heap.size,7,XJ⟩=XK (Xx XF s.til):=by rw[ab B];rfl
 have U:=h.Ur K;have L:=hs.Ur K;have ap:=hx.Ur K;clear hW;cases P:(s.kind==3)
 ·rcases D with _ | ⟨F,r⟩
  ·have p:XN (i6 s [] (w,l.map Ex.xs)=(7,w,l.map Ex.xs)):=(by show _=_;simp[i6,P]);clear u1 u2 u3 u4 u5 u6 u7;go_enter func209,ntmps209;(go_upto_region 1 with fail);rw[HW.out];(go_upto_region 5 with fail);go_quiet (fail);go_wp2;go_ret;exact⟨l,y,ay (by rw[p.out]),by rw[p.out];exact U.Ur ((aa.refl [] _).drewN _),by rw[p.out],(aj.refl _ _ _).Ur (K.drewN _),fun _ q=>P0 q⟩
  ·obtain⟨bm,a⟩:=N;rcases ap.view with ag | ⟨g,c,bo,t,e1,e2,e3,e4,e5⟩
   ·cases ag
   simp only at e1 e4 e5;subst e1;have a3:¬((r.length:Int)+1==0)=XL:=by simp;omega
   have HN:XN ((F :: r).length=r.length+1):=rfl;have bw:(0:Int)<(r.length:Int)+1:=(by omega);have bl:(1:Int)<=(r.length:Int)+1:=(by omega);rw[HN.out]at *;have cx:XI W ⟨g,c,XJ⟩=XK (Xy F):=by have:=(ab e2 c).trans (by simpa using e3 0 F rfl);exact this
   have bs:=ae e2;have TC:=kR s i z;unfold bW at TC;have Y:XN _:=TC;have HC:XN (∀d,aa [] W.drew d->XI d ⟨g,c,XJ⟩=XK (Xy F)/\XI d ⟨b.heap.size,0,XJ⟩=XK (Xx XF s.kind)/\XI d ⟨b.heap.size,1,XJ⟩=XK (Xy s.label)/\XI d ⟨b.heap.size,2,XJ⟩=XK (Xz i.ao s.Um.length i.cap)/\XI d ⟨b.heap.size,3,XJ⟩=XK (Xz z.ao s.Ux.length z.cap)/\XI d ⟨b.heap.size,4,XJ⟩=XK (Xy s.fin.file)/\XI d ⟨b.heap.size,5,XJ⟩=XK (Xx XF s.fin.line)/\XI d ⟨b.heap.size,6,XJ⟩=XK (Xx XF s.fin.col)/\XI d ⟨b.heap.size,7,XJ⟩=XK (Xx XF s.til)):=by
    intro d k;have q:=k.get (show W.drew.heap[b.heap.size]?=_ from B) (by simp);have q2:=k.get (show W.drew.heap[g]?=_ from e2) (by simp);refine⟨(ab q2 c).trans (by simpa using e3 0 F rfl),?_,?_,?_,?_,?_,?_,?_,?_⟩ <;> (rw[ab q];rfl)
   clear TC e3;go_enter func209,ntmps209;(go_upto_region 1 with fail);rw[HW.out];(go_upto_region 5 with fail);cases hc:(F.toList==(ax s).toList)
   ·have p:XN (i6 s (F :: r) (w,l.map Ex.xs)=(7,w,l.map Ex.xs)):=(by show _=_;simp[i6,P,hc]);have az:(F.toList != (ax s).toList)=XL:=(by simp[bne,hc]);go_region_held3 (fun d=>XI d ⟨g,c,XJ⟩=XK (Xy F)/\XI d ⟨b.heap.size,0,XJ⟩=XK (Xx XF s.kind)/\XI d ⟨b.heap.size,1,XJ⟩=XK (Xy s.label)/\XI d ⟨b.heap.size,2,XJ⟩=XK (Xz i.ao s.Um.length i.cap)/\XI d ⟨b.heap.size,3,XJ⟩=XK (Xz z.ao s.Ux.length z.cap)/\XI d ⟨b.heap.size,4,XJ⟩=XK (Xy s.fin.file)/\XI d ⟨b.heap.size,5,XJ⟩=XK (Xx XF s.fin.line)/\XI d ⟨b.heap.size,6,XJ⟩=XK (Xx XF s.fin.col)/\XI d ⟨b.heap.size,7,XJ⟩=XK (Xx XF s.til)) (go_keep) (first | (go_at_call 99;refine(Y.out _ (by exact L.Ur (aa.refl [] _).drew) (by omega)).mono ?_;rintro e T ⟨rfl,E⟩;obtain⟨x0,x1,x2,x3,x4,x5,x6,x7,x8⟩:=HC.out T E))
    all_goals
     clear u0 u1 u2 u3 u4 u5 u6 u7 cx;go_wp2;go_ret;exact⟨l,y,ay (by rw[p.out]),by rw[p.out];exact U.Ur (((aa.refl [] _).drew).trans E),by rw[p.out],(aj.refl _ _ _).Ur (K.drew.trans E),fun _ q=>P0 q⟩
   ·have p:XN (i6 s (F :: r) (w,l.map Ex.xs)=(0,w++[ak s],l.map Ex.xs++[r])):=(by show _=_;simp[i6,P,hc]);have az:(F.toList != (ax s).toList)=XM:=(by simp[bne,hc]);have VA:=fn s i z;unfold bW at VA;have aq:XN _:=VA;clear VA;go_region_held3 (fun d=>XI d ⟨g,c,XJ⟩=XK (Xy F)/\XI d ⟨b.heap.size,0,XJ⟩=XK (Xx XF s.kind)/\XI d ⟨b.heap.size,1,XJ⟩=XK (Xy s.label)/\XI d ⟨b.heap.size,2,XJ⟩=XK (Xz i.ao s.Um.length i.cap)/\XI d ⟨b.heap.size,3,XJ⟩=XK (Xz z.ao s.Ux.length z.cap)/\XI d ⟨b.heap.size,4,XJ⟩=XK (Xy s.fin.file)/\XI d ⟨b.heap.size,5,XJ⟩=XK (Xx XF s.fin.line)/\XI d ⟨b.heap.size,6,XJ⟩=XK (Xx XF s.fin.col)/\XI d ⟨b.heap.size,7,XJ⟩=XK (Xx XF s.til)) (go_keep) (first | (go_at_call 99;refine(Y.out _ (by exact L.Ur (aa.refl [] _).drew) (by omega)).mono ?_;rintro e T ⟨rfl,E⟩;obtain⟨x0,x1,x2,x3,x4,x5,x6,x7,x8⟩:=HC.out T E))
    all_goals
     have J:=U.Ur (((aa.refl [] _).drew).trans E);have bp:=J.bag.lt;have a1:=J.bag.free;obtain⟨m0,m1⟩:=J.cells;have a6:=L.Ur (((aa.refl [] _).drew).trans E);clear u0 u1 u2 u3 u4 u5 u6 u7 cx x0;(go_upto_region 7 with fail);have s4:XN ((au w).n+1<=maxLen):=(by show _<=_;simp only[au];unfold maxLen;omega);have s5:XN (((au w).n+1)*16<=140737488355328):=(by show _<=_;simp only[au];omega);have s3:XN (∀u∈([Xy (ak s)]:List XQ),u.oneCell'=XL):=(by intro u hu;simp at hu;subst hu;rfl);have av:XN (∀I,aa [] T.drew I->jf I x w l y/\jf (I.alloc (XE #[Xy (ak s)] 9)) x w l y/\∀j u,([Xy (ak s)]:List XQ)[j]?=XK u->(I.alloc (XE #[Xy (ak s)] 9)).cell? ((⟨I.heap.size,0,XJ⟩:Addr).add j)=XK u):=by
      intro I k;have q:=J.Ur (((aa.refl [] T).drew).trans k);refine⟨q,q.Ur ((aa.refl [] _).alloc _),fun j u G=>?_⟩;have P:(I.alloc (XE #[Xy (ak s)] 9)).heap[I.heap.size]?=XK (XE #[Xy (ak s)] 9):=PM _ _;rw[ba,ab P];simpa using G
     have a4:XN (∀j,j≠0->mg (w++[ak s]) l j=mg w l j):=by
      intro j G
      match j,G with
      | 0,G=>exact absurd rfl G
      | 1,_=>rfl
      | m+2,_=>rfl
     go_region_law (first | (refine aP rfl (.tmp 32) (.tmp 35) 22 rfl i0 (Xy ⟨#[]⟩) 16 (y 0) (au w) underlying22 hi bc bd bf rfl Qf (by simp[Act.eval] <;> rfl) (y1.bag.own 0) ⟨_,0,XJ⟩ 1 1 [Xy (ak s)] (by simp[Act.eval] <;> rfl) rfl y2 s3.out Qf s4.out s5.out ?_;intro H f w5 ai ad C;obtain⟨k5,f5,HP⟩:=aB.app y1.bag (cs':=kQ (w++[ak s]) l (cX y 0 ⟨XK ⟨H,0,XJ⟩,f⟩)) (rows':=mg (w++[ak s]) l) 0 0 H f ((au w).n+1) _ ai (bJ w (ak s)) ad (by simpa using C) a4.out (Xz (y 0).ao w.length (y 0).cap) rfl (by simp[kQ,cX,au]);clear ai ad C) | (go_simp;go_at_call 97;refine(aq.out _ (by exact a6.Ur (aa.refl [] _).drew) (by omega)).mono ?_;rintro e I ⟨rfl,k4⟩;obtain⟨y0,y1,y2⟩:=av.out I k4;obtain⟨n0,n1⟩:=y0.cells;obtain⟨p0,p1⟩:=y1.cells))
     all_goals
      generalize hX:w5.setCell ⟨x,0,XJ⟩ (Xz (XK ⟨H,0,XJ⟩) ((au w).n+1) f)=X at HP ⊢;have T5:XN (aj x b y X (cX y 0 ⟨XK ⟨H,0,XJ⟩,f⟩)):=(((HP.out.2.first ((aa.refl [] _).alloc _)).first (((aa.refl [] T).drew).trans k4)).first (K.drew.trans E));have D5:=HP.out.1;have q1:=D5.cell 1;have a0:=D5.free;have bq:=D5.lt;simp only[kQ,List.getElem?_cons_succ,List.getElem?_cons_zero]at q1;clear hX k5 f5 n0 n1 p0 p1 y0 y1 y2 m0 m1 a1 x1 x2 x3 x4 x5 x6 x7 x8;(go_upto_region 8 with fail);have hD:XN (aB (X.alloc (XE #[rF (fO g c a r)] 22)).drew x 278 (kQ (w++[ak s]) l (cX y 0 ⟨XK ⟨H,0,XJ⟩,f⟩)) (mg (w++[ak s]) l) (cX y 0 ⟨XK ⟨H,0,XJ⟩,f⟩)):=D5.Ur ((aa.refl [] X).alloc _).drew;have s2:XN (∀j u,([rF (fO g c a r)]:List XQ)[j]?=XK u->(X.alloc (XE #[rF (fO g c a r)] 22)).drew.cell? ((⟨X.heap.size,0,XJ⟩:Addr).add j)=XK u):=by
       intro j u G;have P:(X.alloc (XE #[rF (fO g c a r)] 22)).drew.heap[X.heap.size]?=XK (XE #[rF (fO g c a r)] 22):=PM _ _;rw[ba,ab P];simpa using G
      have S:XN (∀u∈([rF (fO g c a r)]:List XQ),u.oneCell'=XL):=(by intro u hu;simp at hu;subst hu;rfl);have bg:XN ((dv l).n+1<=maxLen):=(by show _<=_;simp only[dv];unfold maxLen;omega);have bk:XN (((dv l).n+1)*24<=140737488355328):=(by show _<=_;simp only[dv];omega);have ah:XN (∀j,j≠1->mg (w++[ak s]) (l++[fO g c a r]) j=mg (w++[ak s]) l j):=by
       intro j G
       match j,G with
       | 0,_=>rfl
       | 1,G=>exact absurd rfl G
       | m+2,_=>rfl
      unfold rF at hD s2 S;simp only[fO]at hD s2 S;go_region_law (refine aP rfl (.tmp 43) (.tmp 46) 70 rfl i1 (Xz XJ 0 0) 24 (cX y 0 ⟨XK ⟨H,0,XJ⟩,f⟩ 1) (dv l) underlying70 a2 a7 a8 a9 rfl Qf (by simp[Act.eval] <;> rfl) (hD.out.own 1) ⟨X.heap.size,0,XJ⟩ 1 1 _ (by simp[Act.eval]) rfl s2.out S.out Qf bg.out bk.out ?_;intro g6 M w6 am O o;obtain⟨k6,f6,V⟩:=aB.app hD.out (cs':=kQ (w++[ak s]) (l++[fO g c a r]) (cX (cX y 0 ⟨XK ⟨H,0,XJ⟩,f⟩) 1 ⟨XK ⟨g6,0,XJ⟩,M⟩)) (rows':=mg (w++[ak s]) (l++[fO g c a r])) 1 1 g6 M ((dv l).n+1) _ am (mG l (fO g c a r)) O (by simpa using o) ah.out (Xz (cX y 0 ⟨XK ⟨H,0,XJ⟩,f⟩ 1).ao l.length (cX y 0 ⟨XK ⟨H,0,XJ⟩,f⟩ 1).cap) rfl (by simp[kQ,cX,dv]);clear am O o)
      all_goals
       have T6:XN _:=T5.out.trans (V.out.2.first ((aa.refl [] _).alloc _).drew);clear q1 a0 k6 f6;generalize (if a=1 then XK (⟨g,c,XJ⟩:Addr) else XK ⟨g,c+1,XJ⟩)=AE;go_wp2;go_ret;refine⟨l++[fO g c a r],_,ay (by rw[p.out]),?_,by rw[p.out];simp[fO],T6.out,fun e q=>by rw[Qo]at q;rcases q with q | q;exact P0 q;simp at q;subst q;exact P7 (J3 g c a r)⟩;rw[p.out];refine⟨V.out.1,by simp[h.len],?_⟩;intro e A;rw[Qo]at A;rcases A with A | A
       ·exact(h.exs e A).turned T6.out
       ·simp at A;subst A;exact(Mo a hx).turned T6.out
 ·go_enter func209,ntmps209;go_upto_region 1 with fail
  rw[HW.out];have RA:=qU x w l y i s.Um W U (by omega) Z L a5;have RL:=FY w (l.map Ex.xs) 10000 (by omega) (by intro b0 hy;obtain⟨e,N,rfl⟩:=Qu.1 hy;exact Z e N) s.Um;have p:XN (i6 s D (w,l.map Ex.xs)=if wD (gS w (l.map Ex.xs) s.Um) D=XL then(0,w,l.map Ex.xs) else(8,w,l.map Ex.xs)):=by show _=_;simp[i6,P]
  generalize gS w (l.map Ex.xs) s.Um=R at *;clear u1 u3 u4 u5 u6 u7;go_wp2_with fail;refine RA.mono ?_;rintro e w2 ⟨hd,rfl,ho,hn,k2⟩;go_wp2_with fail;refine(uQ hd N R D w2 ho.view (ap.view.Ur k2) (by omega) (by omega)).mono ?_;rintro e T ⟨rfl,E⟩;cases ac:wD R D
  ·have v:XN (i6 s D (w,l.map Ex.xs)=(8,w,l.map Ex.xs)):=(by show _=_;rw[p.out,ac];simp);clear p RA;go_wp2;go_ret;exact⟨l,y,ay (by rw[v.out]),by rw[v.out];exact(U.Ur k2).Ur E,by rw[v.out],(aj.refl _ _ _).Ur ((K.trans k2).trans E),fun _ q=>P0 q⟩
  ·have v:XN (i6 s D (w,l.map Ex.xs)=(0,w,l.map Ex.xs)):=(by show _=_;rw[p.out,ac];simp);clear p RA;go_wp2;go_ret;exact⟨l,y,ay (by rw[v.out]),by rw[v.out];exact(U.Ur k2).Ur E,by rw[v.out],(aj.refl _ _ _).Ur ((K.trans k2).trans E),fun _ q=>P0 q⟩
set_option maxRecDepth 512
theorem zp(d:aE T a (bQ n))(u:n.length<=1073741824) :
  XO prog 217 #[Xz a.ao n.length a.cap,Xx XF H] T fun e v=>e=XH (XC (gy n H))/\v=T:=by
 obtain⟨w,r⟩:=a;rcases d.UC with ⟨t,q,_⟩ | ⟨g,s,p,_⟩
 ·have l:n.length=0:=q;have o:n=[]:=Ql l;subst o;clear d q l u t;go_enter func217,ntmps217;go_wp2;refine Rg 1 ?_;rw[RM];go_wp2;go_ret;exact⟨rfl,rfl⟩
 ·simp only at p;subst p;go_enter func217,ntmps217;go_wp2
  go_loopg [5] n.length (fun g i wr=>∃k:Nat,k<=n.length/\g=n.length-k/\i=Xx XF k/\XN (gy n H=gy (n.drop k) H)/\wr=T)
  case atStart=>exact⟨0,by omega,by omega,rfl,rfl,rfl⟩
  case round =>
   obtain⟨k,z,y,rfl,f,rfl⟩:=hrel;by_cases b:k<n.length
   ·have x:=d.cell rfl k (Xx XF n[k]) (gF n k b);cases c:(n[k]==H)
    ·have j:XN (gy n H=gy (n.drop (k+1)) H):=uX n H k b f.out c;have m:=(kF n[k] H).trans c;clear f d c;go_wp2;go_roundg (n.length-(k+1))
     case measure=>omega
     case rel=>exact⟨k+1,by omega,rfl,by go_num,j,rfl⟩
    ·have j:XN (gy n H=XL):=zb n H k b f.out c;have m:=(kF n[k] H).trans c;clear f d c;go_wp2;go_ret;exact⟨aH j.out.symm,rfl⟩
   ·have j:XN (gy n H=XM):=uY n H k b f.out;clear f d;go_wp2;go_ret;exact⟨aH j.out.symm,rfl⟩
structure ui(w:XP)(b rb ro g n tb:Nat):Prop where
 blk:∃arr t,w.heap[b]?=XK (XE arr t)/\arr[0]?=XK (XA (XK ⟨rb,ro,XJ⟩))/\arr[1]?=XK (Xz (XK ⟨g,0,XJ⟩) n n)/\arr[2]?=XK (XA (XK ⟨tb,0,XJ⟩))
theorem ui.Ur{b:Nat}(h:ui S f d I z1 z7 b)(k:aa [] S N):ui N f d I z1 z7 b:=by
 obtain⟨a,t,c,e⟩:=h.blk;exact⟨a,t,k.get c (by simp),e⟩
theorem ui.cells{g:Nat}(h:ui S f d I g z1 z7):XI S ⟨f,0,XJ⟩=XK (XA (XK ⟨d,I,XJ⟩))/\XI S ⟨f,1,XJ⟩=XK (Xz (XK ⟨g,0,XJ⟩) z1 z1)/\XI S ⟨f,2,XJ⟩=XK (XA (XK ⟨z7,0,XJ⟩)):=by
 obtain⟨b,t,a,c,e,i⟩:=h.blk;exact⟨(ab a 0).trans c,(ab a 1).trans e,(ab a 2).trans i⟩
def l8(vs:List ByteArray):List ByteArray->List Nat->List Nat
 | [],acc=>acc
 | x :: r,acc=>match aZ vs x with
  | none=>l8 vs r acc
  | some p=>if gy acc p=XL then l8 vs r acc else l8 vs r (acc++[p])
def ik(vs xs:List ByteArray):List Nat:=l8 vs xs []
theorem LP(a:H<b.length):l8 v (b.drop H) n=match aZ v b[H] with
  | none=>l8 v (b.drop (H+1)) n
  | some p=>if gy n p=XL then l8 v (b.drop (H+1)) n else l8 v (b.drop (H+1)) (n++[p]):=by
 rw[Qr a];rfl
theorem Jh(a:¬H<b.length):l8 v (b.drop H) n=n:=by
 rw[Q4 (by omega)];rfl
theorem zR(d:List ByteArray)(a:List Nat)(h:∀p∈a,p<b.length):(∀p∈l8 b d a,p<b.length)/\(l8 b d a).length<=a.length+d.length:=by
 induction d generalizing a with
 | nil=>exact⟨h,by simp[l8]⟩
 | cons x r e =>
  rw[l8];split
  ·have:=e a h;exact⟨this.1,by simp;omega⟩
  ·next p g =>
   split
   ·have:=e a h;exact⟨this.1,by simp;omega⟩
   ·have:=e (a++[p]) (by intro q c;simp at c;rcases c with c | rfl;exact h q c;exact mE g);exact⟨this.1,by have f:=this.2;simp at f ⊢;omega⟩
theorem GL{a:List ByteArray}(h:f∈ik D a):f<D.length:=(zR D a [] (by simp)).1 f h
theorem Dc:(ik v b).length<=b.length:=by have:=(zR v b [] (by simp)).2;unfold ik;simpa using this
set_option maxRecDepth 100000
theorem s8(hp:ui T z2 z8 y3 z0 z3 x)(h:im T x w L z4 z5)(hl:w.length<=1073741824)(U:cE T a b)(V:b.length<=1000000) :
  XO prog 216 #[XA (XK ⟨z2,0,XJ⟩),Xz a.ao b.length a.cap] T fun e w'=>∃d:Hd,e=XH (Xz d.ao (ik w b).length d.cap)/\aE w' d (bQ (ik w b))/\(∀g,d.blk=XK g->T.heap.size<=g)/\aa [] T w':=by
 obtain⟨i0,hi,W,X,Y⟩:=Qq mX;obtain⟨ao,ac⟩:=a;rcases U with rfl | ⟨gv,J,ad,t,e1,e2,O,e4,e5⟩
 ·clear V;go_enter func216,ntmps216;go_wp2;refine Rg 1 ?_;rw[RM];go_wp2;go_ret;exact⟨⟨XJ,0⟩,rfl,Qj _ _ _ _,by intro g o;simp[Hd.blk]at o,aa.refl _ _⟩
 simp only at e1 e4 e5;subst e1;obtain⟨R,Z⟩:∃R,XN (R=ik w b):=⟨_,rfl⟩
 rw[<-Z.out];go_enter func216,ntmps216;go_wp2
 go_loopg [5,6] b.length (fun gk sv i wr=>∃(k:Nat) (d:Hd) (c:List Nat),k<=b.length/\gk=b.length-k/\i=Xx XF k/\sv=Xz d.ao c.length d.cap/\c.length<=k/\XN (R=l8 w (b.drop k) c)/\aE wr d (bQ c)/\(∀g,d.blk=XK g->T.heap.size<=g)/\aa [] T wr)
 case atStart=>exact⟨0,⟨XJ,0⟩,[],by omega,by omega,rfl,rfl,by simp,Z.out,Qj _ _ _ _,by intro g o;simp[Hd.blk]at o,aa.refl _ _⟩
 case round =>
  obtain⟨k,d,c,hk,hg,rfl,rfl,ag,q,G,F,B⟩:=hrel;have hr:=h.Ur B;obtain⟨p0,p1,p2⟩:=(hp.Ur B).cells;by_cases z:k<b.length
  ·have c2:XI wr ⟨gv,J+k,XJ⟩=XK (Xy b[k]):=(ab (B.get e2 (by simp)) (J+k)).trans (O k b[k] (PJ z));have am:(k:Int)<b.length:=(by omega);have m:XN _:=q.out.trans (LP w b c k z);have l:XN _:=(fun w1 (k1:aa [] wr w1)=>pq x w L z4 z5 b[k] w1 (hr.Ur k1) hl);clear q O p0 p1;generalize b[k]=y at *;rcases hpo:aZ w y with _ | p
   ·have s:XN (R=l8 w (b.drop (k+1)) c):=(by show _=_;rw[m.out,hpo]);rw[hpo]at l;simp only[eT]at l;clear m;(go_upto_region 5 with fail);go_quiet ((go_at_call 180;exact QC (l.out _ ((aa.refl [] _).drewN _))));go_wp2;go_roundg (b.length-(k+1))
    case measure=>omega
    case rel=>exact⟨k+1,d,c,by omega,rfl,by go_num,rfl,by omega,s.out,G.Uw (fun g o=>((aa.refl [] wr).drewN _).block g (G.lt o) (by simp)),F,B.drewN _⟩
   ·rw[hpo]at l;simp only[eT]at l;have ai:(p:Int) ≥ 0:=by omega
    (go_upto_region 5 with fail);go_quiet ((go_at_call 180;exact QC (l.out _ ((aa.refl [] _).drewN _))));obtain⟨K,r⟩:∃K,K=wr.drewN nq:=⟨_,rfl⟩
    rw[<-r];have n:aE K d (bQ c):=by rw[r];exact G.Uw (fun g o=>((aa.refl [] wr).drewN _).block g (G.lt o) (by simp))
    have E:aa [] T K:=(by rw[r];exact B.drewN _);clear r;cases M:gy c p
    ·have s:XN (R=l8 w (b.drop (k+1)) (c++[p])):=(by show _=_;rw[m.out,hpo];simp[M]);have H:=n.Uw (fun g o=>((aa.refl [] K).alloc (XE #[Xx XF p] 3)).block g (n.lt o) (by simp));clear m;(go_upto_region 7 with (go_at_call 217;refine(zp d c p _ (by exact n) (by omega)).mono ?_;rintro e w7 ⟨rfl,A⟩;rw[A,M]));go_wp2_with (at_builtin;refine aD _ rfl (.tmp 31) (.tmp 33) 46 rfl i0 (Xx XF 0) 8 d (bQ c) underlying46 hi W X Y rfl Qf rfl (by exact H) ⟨_,0,XJ⟩ 1 1 [Xx XF p] rfl rfl ?d1 ?d2 Qf ?d3 ?d4 ?_)
     case d1=>intro j u N;match j,N with | 0,N=>simp at N;subst N;simp[Addr.add]
     case d2=>intro u hu;simp at hu;subst hu;rfl
     case d3=>simp only[bQ];unfold maxLen;omega
     case d4=>simp only[bQ];omega
     intro P C w5 I v f;rw[jc c p]at I;have D:=E.alloc (XE #[Xx XF p] 3);have S:=D.grown v F;have ah:T.heap.size<=P:=by
      rcases f with e | e
      ·exact F P e
      ·have:=D.size;simp at e this;omega
     have Q:XN ((bQ c).n+1=(c++[p]).length):=(by show _=_;simp[bQ]);rw[Q.out];clear v f H;go_wp2;go_roundg (b.length-(k+1))
     case measure=>omega
     case rel=>exact⟨k+1,⟨XK ⟨P,0,XJ⟩,C⟩,c++[p],by omega,rfl,by go_num,rfl,by simp;omega,s.out,I,by intro g o;simp[Hd.blk]at o;omega,S⟩
    ·have s:XN (R=l8 w (b.drop (k+1)) c):=(by show _=_;rw[m.out,hpo];simp[M]);clear m;go_wp2_with (go_at_call 217;refine(zp d c p _ (by exact n) (by omega)).mono ?_;rintro e w7 ⟨rfl,A⟩;rw[A,M]);go_roundg (b.length-(k+1))
     case measure=>omega
     case rel=>exact⟨k+1,d,c,by omega,rfl,by go_num,rfl,by omega,s.out,n,F,E⟩
  ·have s:XN (c=R):=(q.out.trans (Jh w b c k z)).symm;clear q O;go_wp2;go_ret;exact⟨d,by rw[<-s.out];rfl,by rw[<-s.out];exact G,F,B⟩
def ul(side:Nat)(ms:List Bool)(ones others:List Nat):Bool:=ones.all (fun i=>others.all (fun j=>cR side ms i j))
theorem KJ{side:Nat}{ms:List Bool}(a:x<m.length)(b:H<s.length)(h:cR side ms m[x] s[H]=XM):ul side ms m s=XM:=by
 cases e:ul side ms m s
 ·rfl
 ·unfold ul at e;rw[QR]at e;have:=e _ (PT a);rw[QR]at this;rw[this _ (PT b)]at h;cases h
theorem G6{c:List Bool}(h:∀i j (a:i<m.length) (b:j<s.length),cR f c m[i] s[j]=XL):ul f c m s=XL:=by
 unfold ul;rw[QR];intro x d;rw[QR];intro y e;obtain⟨i,a,rfl⟩:=QN d;obtain⟨j,b,rfl⟩:=QN e;exact h i j a b
set_option maxRecDepth 512
theorem wj(v:Hd)(c b:List Nat)(o:XP)(hp:ui o z2 z8 y3 z0 z3 x)(h:im o x w L z4 z5)(M:L.length=w.length*w.length)(N:w.length<=10000)(Q:aE o a (bQ c))(R:aE o v (bQ b))(a3:c.length<=1000000)(a4:b.length<=1000000)(y:∀t∈c,t<w.length)(z:∀t∈b,t<w.length) :
  XO prog 214 #[XA (XK ⟨z2,0,XJ⟩),Xz a.ao c.length a.cap,Xz v.ao b.length v.cap] o fun e w'=>e=XH (XC (ul w.length L c b))/\∃m,w'=o.drewN m:=by
 go_enter func214,ntmps214;go_wp2
 go_loopg [7] c.length (fun gk i wr=>∃(k m:Nat),k<=c.length/\gk=c.length-k/\i=Xx XF k/\XN (∀i j (l:i<c.length) (A:j<b.length),i<k->cR w.length L c[i] b[j]=XL)/\XN (wr=o.drewN m))
 case atStart=>exact⟨0,0,by omega,by omega,rfl,fun i j l A h=>by omega,rfl⟩
 case round =>
  obtain⟨k,m,hk,hg,rfl,d,C⟩:=hrel;by_cases s:k<c.length
  ·go_wp2_with fail
   go_loopg [8] b.length (fun I i2 S=>∃(j P:Nat),j<=b.length/\I=b.length-j/\i2=Xx XF j/\XN (∀i (l:i<b.length),i<j->cR w.length L c[k] b[i]=XL)/\XN (S=o.drewN P))
   case atStart=>exact⟨0,m,by omega,by omega,rfl,fun i l h=>by omega,C⟩
   case round =>
    obtain⟨j,P,A,av,rfl,f,g⟩:=hrel;by_cases r:j<b.length
    ·have K:aa [] o wr:=(by rw[g.out];exact(aa.refl [] _).drewN _);have W:=h.Ur K;obtain⟨p0,p1,p2⟩:=(hp.Ur K).cells;rcases Q.UC with ⟨_,J,_⟩ | ⟨ga,ca,E,ag,F,ah,-⟩
     ·have:c.length=0:=J;omega
     rcases R.UC with ⟨_,J,_⟩ | ⟨gb,cb,G,ai,H,am,-⟩
     ·have:b.length=0:=J;omega
     have d1:XI wr ⟨ga,k,XJ⟩=XK (Xx XF c[k]):=(Q.Uw (fun t O=>K.block t (Q.lt O) (by simp))).cell E k (Xx XF c[k]) (gF c k s);have d2:XI wr ⟨gb,j,XJ⟩=XK (Xx XF b[j]):=(R.Uw (fun t O=>K.block t (R.lt O) (by simp))).cell G j (Xx XF b[j]) (gF b j r);have ap:c.length<=a.cap:=F;have aq:b.length<=v.cap:=H;have az:(k:Int)<c.length:=(by omega);have a0:(j:Int)<b.length:=(by omega);have x1:=y _ (PT s);have x2:=z _ (PT r);have p:XN _:=KJ (side:=w.length) (ms:=L) k j s r;have q:XN (cR w.length L c[k] b[j]=XL->∀i (l:i<b.length),i<j+1->cR w.length L c[k] b[i]=XL):=by
      intro hh i l a1;by_cases e:i=j
      ·subst e;exact hh
      ·exact f.out i l (by omega)
     have T:=fun nq=>mt x w L z4 z5 c[k] b[j] (wr.drewN nq) (W.Ur ((aa.refl [] _).drewN nq)) M N x1 x2;obtain⟨ac,U⟩:=a;obtain⟨ad,V⟩:=v;simp only at E G;subst E;subst G;clear f W p0 p1;generalize c[k]=X at *;generalize b[j]=Y at *;have n:XN _:=T;clear T;cases D:cR w.length L X Y
     ·have u:XN _:=p.out D;rw[D]at n;clear p q d;(go_upto_region 7 with fail);go_quiet ((go_at_call 149;exact QC (n.out _)));go_wp2;go_ret;exact⟨aH u.out.symm,_,by rw[g.out];exact World.drewN_drewN _ _ _⟩
     ·have u:XN _:=q.out D;rw[D]at n;clear p q;(go_upto_region 7 with fail);go_quiet ((go_at_call 149;exact QC (n.out _)));go_wp2;go_roundg (b.length-(j+1))
      case measure=>omega
      case rel=>exact⟨j+1,_,by omega,rfl,by go_num,u.out,by show _=_;rw[g.out];exact World.drewN_drewN _ _ _⟩
    ·have HN:XN (∀i j (l:i<c.length) (A:j<b.length),i<k+1->cR w.length L c[i] b[j]=XL):=by
      intro i Z l B a2;by_cases e:i=k
      ·subst e;exact f.out Z B (by omega)
      ·exact d.out i Z l B (by omega)
     clear f d;go_wp2;go_roundg (c.length-(k+1))
     case measure=>omega
     case rel=>exact⟨k+1,P,by omega,rfl,by go_num,HN,g⟩
  ·have u:XN (ul w.length L c b=XL):=G6 (fun i j l A=>d.out i j l A (by omega));clear d;go_wp2;go_ret;exact⟨aH u.out.symm,m,C.out⟩
structure fz(w:XP)(g N:Nat)(F:Nat->List Nat)(K:Nat->Hd):Prop where
 arr:∃arr,w.heap[g]?=XK (XE arr 46)/\arr.size=N/\∀n,n<N->arr[n]?=XK (Xz (K n).ao (F n).length (K n).cap)
 own:∀n,n<N->aE w (K n) (bQ (F n))
 off:∀n,n<N->(K n).blk≠XK g
theorem fz.Ur(h:fz S f d M o)(q:aa [] S N):fz N f d M o:=by
 obtain⟨a,c,e,g⟩:=h.arr;exact⟨⟨a,q.get c (by simp),e,g⟩,fun n b=>(h.own n b).Uw (fun x i=>q.block x ((h.own n b).lt i) (by simp)),h.off⟩
theorem fz.cell(h:fz S f d M o)(n:Nat)(e:n<d):XI S ⟨f,n,XJ⟩=XK (Xz (o n).ao (M n).length (o n).cap):=by
 obtain⟨a,b,g,c⟩:=h.arr;rw[ab b];exact c n e
theorem fz.free(h:fz S f d M o)(n:Nat):S.frozen? ⟨f,n,XJ⟩=XM:=by
 obtain⟨a,b,c,e⟩:=h.arr;exact aw b n
theorem fz.lt(h:fz S f d M o):f<S.heap.size:=by
 obtain⟨a,b,c,e⟩:=h.arr;exact ae b
def C1(F:Nat->List Nat)(k:Nat)(v:List Nat):Nat->List Nat:=fun n=>if n=k then v else F n
theorem fz.store{k:Nat}(h:fz S f d M o)(v:List Nat)(c:Hd)(p:aE S c (bQ v))(i:c.blk≠XK f) :
  fz (S.setCell ⟨f,k,XJ⟩ (Xz c.ao v.length c.cap)) f d (C1 M k v) (cX o k c):=by
 obtain⟨j,l,g,m⟩:=h.arr;refine⟨⟨_,af l _ _,by simpa using g,?_⟩,?_,?_⟩
 ·intro n b;by_cases a:n=k
  ·subst a;rw[cG];simp[g,b,C1]
  ·rw[bD _ _ _ _ a];rw[SW (by omega)];simp only[C1,if_neg a];exact m n b
 ·intro n b;by_cases a:n=k
  ·subst a;rw[cG];simp only[C1,if_pos];exact p.Uw (fun x e=>P9 _ _ _ _ (by rintro rfl;exact i e))
  ·rw[bD _ _ _ _ a];simp only[C1,if_neg a];exact(h.own n b).Uw (fun x e=>P9 _ _ _ _ (by rintro rfl;exact h.off n b e))
 ·intro n b;by_cases a:n=k
  ·subst a;rw[cG];exact i
  ·rw[bD _ _ _ _ a];exact h.off n b
end Go.Proofs.YtnbalopedcgpcaaGreat
