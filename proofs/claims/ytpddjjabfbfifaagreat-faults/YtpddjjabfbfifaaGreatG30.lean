import Derived.Deep.RegionHeld3
import Derived.Deep.CutRange
import Derived.Test.YtpddjjabfbfifaaGreatG29
namespace Go.Proofs.YtpddjjabfbfifaaGreat
open Go.RowKit
set_option maxHeartbeats 40000000
def oC:Int->List Sm->Bool
 | _,[]=>true
 | o,s :: r=>if aY o s.k<0 then false else oC (aY o s.k) r
def bB(S:List Sm)(j n:Nat):Bool:=oC 0 ((S.drop j).take (n-j))
def bF(S:List Sm)(n:Nat):Int:=(S.take n).foldl (fun o s=>aY o s.k) 0
theorem rD(S:List Sm)(k:Nat)(h:k<S.length):bF S (k+1)=aY (bF S k) S[k].k:=by
 unfold bF;rw[List.take_succ_eq_append_getElem h,List.foldl_append];rfl
theorem za{s:ByteArray}(h1:(s.toList == [36,123])=true)(h2:(s.toList == [36,125])=true):False:=by
 have a1:s.toList=[36,123]:=by simpa using h1
 rw[a1]at h2;exact absurd h2 (by decide)
set_option maxRecDepth 100000 in
theorem BJ(b n:Nat)(T:List Tk)(aoT:Option Addr)(cT:Nat)(S:List Sm)(aoS:Option Addr)(cS:Nat)(w:World)(hD:fa w b T aoT cT S aoS cS)(hn:n<=S.length)(hS:S.length<=100000) :
  Calls Tryz.prog 168 #[.pointer (some ⟨b,0,none⟩),.int .i64 n] w fun e w'=>e=.returned (.int .i64 (bF S n))/\w'=w:=by
 obtain⟨-,c1,hb⟩:=hD.cells;have HD:=(show Hid _ from hD.s.2);clear hD;go_enter Tryz.func168,Tryz.ntmps168;go_wp2
 go_loopg [5,6] n (fun g o i wr=>∃(k:Nat) (m:Int),k<=n/\g=n-k/\o=.int .i64 m/\i=.int .i64 k/\(-(k:Int)<=m/\m<=(k:Int))/\Hid (m=bF S k)/\wr=w)
 case atStart=>exact⟨0,0,by omega,rfl,rfl,rfl,by omega,rfl,rfl⟩
 case round =>
  obtain⟨k,m,hk,hg,rfl,rfl,hm,HM,rfl⟩:=hrel
  by_cases hlt:k<n
  ·have hks:k<S.length:=by omega
   obtain⟨gs,rfl,hgs,-,-,-,q3⟩:=HD.out k S[k] (List.getElem?_eq_getElem hks);have HN:=(show Hid _ from rD S k hks);have hki:(k:Int)<(n:Int):=by omega
   have hki2:(k:Int)<(S.length:Int):=by omega
   rw[<-HM.out]at HN;generalize S[k]=t at *;obtain⟨sa,sz,sh,sk⟩:=t;simp only at q3 HN
   cases h1:(sk.toList == [36,123])
   ·cases h2:(sk.toList == [36,125])
    ·have HE:Hid (m=bF S (k+1)):=by show _=_;rw[HN.out,aY,h1,h2];simp
     go_wp2
     go_roundg (n-(k+1))
     case measure=>omega
     case rel=>exact⟨k+1,m,by omega,rfl,rfl,by go_num,by omega,HE,rfl⟩
    ·have HE:Hid (m-1=bF S (k+1)):=by show _=_;rw[HN.out,aY,h1,h2];simp
     go_wp2
     go_roundg (n-(k+1))
     case measure=>omega
     case rel=>exact⟨k+1,m-1,by omega,rfl,by go_num,by go_num,by omega,HE,rfl⟩
   ·cases h2:(sk.toList == [36,125])
    ·have HE:Hid (m+1=bF S (k+1)):=by show _=_;rw[HN.out,aY,h1,h2];simp
     go_wp2
     go_roundg (n-(k+1))
     case measure=>omega
     case rel=>exact⟨k+1,m+1,by omega,rfl,by go_num,by go_num,by omega,HE,rfl⟩
    ·exact(za h1 h2).elim
  ·have e:k=n:=by omega
   subst e;go_wp2;go_ret;exact⟨am HM.out,rfl⟩
theorem FW(S:List Sm)(k n:Nat)(h:k<n)(hn:n<=S.length):(S.drop k).take (n-k)=S[k]'(by omega) :: (S.drop (k+1)).take (n-(k+1)):=by
 rw[List.drop_eq_getElem_cons (by omega),show n-k=(n-(k+1))+1 by omega,List.take_succ_cons]
set_option maxRecDepth 100000 in
theorem j5(b j n:Nat)(T:List Tk)(aoT:Option Addr)(cT:Nat)(S:List Sm)(aoS:Option Addr)(cS:Nat)(w:World)(hD:fa w b T aoT cT S aoS cS)(hj:j<=n)(hn:n<=S.length)(hS:S.length<=100000) :
  Calls Tryz.prog 92 #[.pointer (some ⟨b,0,none⟩),.int .i64 j,.int .i64 n] w fun e w'=>e=.returned (.bool (bB S j n))/\w'=w:=by
 obtain⟨-,c1,hb⟩:=hD.cells;have HD:=(show Hid _ from hD.s.2);clear hD;go_enter Tryz.func92,Tryz.ntmps92;go_wp2
 go_loopg [7,8] (n-j) (fun g o i wr=>∃(k:Nat) (m:Int),(j<=k/\k<=n)/\g=n-k/\o=.int .i64 m/\i=.int .i64 k/\(0<=m/\m<=(k:Int))/\Hid (bB S j n=oC m ((S.drop k).take (n-k)))/\wr=w)
 case atStart=>exact⟨j,0,⟨by omega,by omega⟩,rfl,rfl,rfl,by omega,rfl,rfl⟩
 case round =>
  obtain⟨k,m,⟨hjk,hk⟩,hg,rfl,rfl,hm,HM,rfl⟩:=hrel
  by_cases hlt:k<n
  ·have hks:k<S.length:=by omega
   obtain⟨gs,rfl,hgs,-,-,-,q3⟩:=HD.out k S[k] (List.getElem?_eq_getElem hks);have HA:=(show Hid _ from FW S k n hlt hn);rw[HA.out,oC]at HM;have hki:(k:Int)<(n:Int):=by omega
   have hki2:(k:Int)<(S.length:Int):=by omega
   generalize S[k]=t at *;obtain⟨sa,sz,sh,sk⟩:=t;simp only at q3 HM
   cases h1:(sk.toList == [36,123])
   ·cases h2:(sk.toList == [36,125])
    ·have HE:Hid (bB S j n=oC m ((S.drop (k+1)).take (n-(k+1)))):=by
      have hd:aY m sk=m:=by unfold aY;rw[h1,h2];simp
      have:=HM.out;rw[hd,if_neg (by omega)]at this;exact this
     have hm0:¬m<0:=by omega
     go_wp2
     go_roundg (n-(k+1))
     case measure=>omega
     case rel=>exact⟨k+1,m,⟨by omega,by omega⟩,rfl,rfl,by go_num,by omega,HE,rfl⟩
    ·have hd:aY m sk=m-1:=by unfold aY;rw[h1,h2];simp
     rw[hd]at HM
     by_cases hz:m-1<0
     ·have HE:Hid (bB S j n=false):=by
       have:=HM.out;rw[if_pos hz]at this;exact this
      go_wp2;go_ret;exact⟨aB HE.out.symm,rfl⟩
     ·have HE:Hid (bB S j n=oC (m-1) ((S.drop (k+1)).take (n-(k+1)))):=by
       have:=HM.out;rw[if_neg hz]at this;exact this
      go_wp2
      go_roundg (n-(k+1))
      case measure=>omega
      case rel=>exact⟨k+1,m-1,⟨by omega,by omega⟩,rfl,by go_num,by go_num,by omega,HE,rfl⟩
   ·cases h2:(sk.toList == [36,125])
    ·have HE:Hid (bB S j n=oC (m+1) ((S.drop (k+1)).take (n-(k+1)))):=by
      have hd:aY m sk=m+1:=by unfold aY;rw[h1,h2];simp
      have:=HM.out;rw[hd,if_neg (by omega)]at this;exact this
     have hm0:¬m+1<0:=by omega
     go_wp2
     go_roundg (n-(k+1))
     case measure=>omega
     case rel=>exact⟨k+1,m+1,⟨by omega,by omega⟩,rfl,by go_num,by go_num,by omega,HE,rfl⟩
    ·exact(za h1 h2).elim
  ·have e:k=n:=by omega
   subst e;have HE:Hid (bB S j k=true):=by show _=_;rw[HM.out,Nat.sub_self,List.take_zero,oC]
   go_wp2;go_ret;exact⟨aB HE.out.symm,rfl⟩
def lD(s:ByteArray):Bool:=(s.toList == [36,61])||(s.toList == [36,46])
def lk:List Tk->List ByteArray
 | []=>[]
 | t :: r=>if lD t.s=true then [] else t.s :: lk r
def bV(T:List Tk)(h:Nat):List ByteArray:=lk (T.drop h)
def eF(T:List Tk)(h:Nat):Prop:=∃e,h<=e/\e<T.length/\lD (tS T e)=true
theorem Cn(T:List Tk)(i:Nat)(h:i<T.length):T.drop i=T.getD i ic :: T.drop (i+1):=by
 rw[List.drop_eq_getElem_cons h,List.getD_eq_getElem?_getD,List.getElem?_eq_getElem h];rfl
theorem Fc(L:List Tk):(lk L).length<=L.length:=by
 induction L with
 | nil=>exact Nat.le_refl _
 | cons t r ih=>rw[lk];split <;> simp <;> omega
theorem jQ(T:List Tk)(h:Nat):(bV T h).length<=T.length:=by
 have:=Fc (T.drop h);rw[List.length_drop]at this;unfold bV;omega
structure tP(w wr:World)(h:Hd)(O:List ByteArray):Prop where
 own:aA wr h (aD O)
 far:∀k,h.blk=some k->w.heap.size<=k
 kept:ab [] w wr
theorem tP.nil(w:World):tP w w ⟨none,0⟩ []:=⟨World.ownsRow_nil _ _ _ _,(by intro k hk;cases hk),ab.refl _ _⟩
theorem tP.still{w wr wr':World}{h:Hd}{O:List ByteArray}(a:tP w wr h O)(k:ab [] wr wr'):tP w wr' h O:=⟨a.own.still k,a.far,a.kept.trans k⟩
theorem tP.grew{w wr wr':World}{h h':Hd}{O O':List ByteArray}(a:tP w wr h O)(g:bh wr wr' h h')(o:aA wr' h' (aD O')):tP w wr' h' O':=by
 refine⟨o,fun k hk=>?_,⟨g.kept.os.trans a.kept.os,g.kept.tape.trans a.kept.tape,g.kept.output.trans a.kept.output,Nat.le_trans a.kept.size g.kept.size,fun k hk _=>?_⟩⟩
 ·rcases g.blk with e | ⟨q,e,hq⟩
  ·exact a.far k (by rw[<-e];exact hk)
  ·rw[e]at hk;cases hk
   exact Nat.le_trans a.kept.size hq
 ·rw[g.kept.block k (Nat.lt_of_lt_of_le hk a.kept.size) (fun hq=>by have:=a.far _ (aK hq);omega),a.kept.block k hk (by simp)]
theorem ng(w:World){ops:Array Oper}{rest:List Oper}{o:Oper}{a:Act}{Q:Exit->Act->World->Prop}
  (hg:o.guard=none) (s x:Operand) (hop:o.op=Op.call { callee:=Callee.builtin Builtin.append,args:=#[s,x],argTypes:=#[61,61] })
  (h:Hd) (L:List ByteArray) (t:ByteArray) (hs:a.eval s=.slice h.ao L.length h.cap) (hown:aA w h (aD L)) (hL:L.length<=1000000) (hx:a.eval x=.slice (some ⟨w.heap.size,0,none⟩) 1 1)
  (hK:∀h' w',aA w' h' (aD (L++[t]))->bh w w' h h'->wpList Tryz.prog ops Q rest (a.put o.dst (.slice h'.ao (L.length+1) h'.cap)) w') :
  wpList Tryz.prog ops Q (o :: rest) a (w.alloc (.cells #[.string t] 9)):=by
 obtain⟨i0,hi,hz0,hz1,hz2⟩:=info_parts jI;have k1:ab [] w (w.alloc (.cells #[.string t] 9)):=(ab.refl [] _).alloc _;have hk:(w.alloc (.cells #[.string t] 9)).heap[w.heap.size]?=some (.cells #[.string t] 9 (0,0)):=heap_alloc_new _ _;refine aM _ hg s x 61 hop i0 (.string ⟨#[]⟩) 16 h (aD L) Tryz.underlying61 hi hz0 hz1 hz2 rfl Nat.one_pos hs (hown.still k1) ⟨w.heap.size,0,none⟩ 1 1 [.string t] hx rfl ?_ ?_ Nat.one_pos (by simp only[aD];unfold maxLen;omega) (by simp only[aD];omega) ?_
 ·intro j u hj
  rw[bK,aa hk];simpa using hj
 ·intro u hu
  rw[List.mem_singleton.1 hu];rfl
 ·intro g5 cap5 w5 hw5 hgr5 hf5
  rw[dS]at hw5;exact hK ⟨some ⟨g5,0,none⟩,cap5⟩ w5 hw5 ((bh.still k1).trans (bh.made hgr5 hf5))
set_option maxRecDepth 100000 in
theorem ki(b j:Nat)(T:List Tk)(aoT:Option Addr)(cT:Nat)(S:List Sm)(aoS:Option Addr)(cS:Nat)(w:World)(hD:fa w b T aoT cT S aoS cS)(hj:j<S.length)(hT:T.length<=100000)(hE:eF T S[j].h) :
  Calls Tryz.prog 72 #[.pointer (some ⟨b,0,none⟩),.int .i64 j] w fun e w'=>∃h',e=.returned (.slice h'.ao (bV T S[j].h).length h'.cap)/\tP w w' h' (bV T S[j].h):=by
 obtain⟨gS,rfl,hgS,-,-,q2,-⟩:=hD.s.2 j S[j] (List.getElem?_eq_getElem hj);generalize S[j].h=sh at *;obtain⟨e,e1,e2,e3⟩:=hE;obtain⟨gT,rfl,hgT,-⟩:=hD.t.2 e _ (fZ T e e2);have HD:=(show Hid _ from hD);obtain⟨c0,c1,hb⟩:=hD.cells;have hji:(j:Int)<(S.length:Int):=by omega
 have HX:=(show Hid _ from tP.nil w);clear hD;go_enter Tryz.func72,Tryz.ntmps72;go_wp2;clear c0 c1 q2
 go_loopg [5,6] (T.length-sh) (fun g o i wr=>∃(k:Nat) (h':Hd) (O:List ByteArray),(sh<=k/\k<=e)/\g=T.length-k/\o=.slice h'.ao O.length h'.cap/\i=.int .i64 k/\O.length<=k/\Hid (O++lk (T.drop k)=bV T sh)/\Hid (tP w wr h' O))
 case atStart=>exact⟨sh,⟨none,0⟩,[],⟨by omega,by omega⟩,rfl,rfl,rfl,Nat.zero_le _,rfl,HX⟩
 case round =>
  obtain⟨k,h',O,⟨hk1,hk2⟩,hg,rfl,rfl,hO,HE,HW⟩:=hrel;have hks:k<T.length:=by omega
  have HDr:=(show Hid _ from fa.still HD.out HW.out.kept);obtain⟨c0,-,hbr⟩:=HDr.out.cells;obtain⟨gT2,e5,hgr,q0,-⟩:=HDr.out.t.2 k _ (fZ T k hks)
  cases e5
  replace q0:wr.cell? ⟨gT,k*5,none⟩=some (.string (tS T k)):=q0;have hki:(k:Int)<(T.length:Int):=by omega
  have HN:=(show Hid _ from Cn T k hks);rw[HN.out,lk]at HE;have HE:Hid (O++(if lD (tS T k)=true then [] else tS T k :: lk (T.drop (k+1)))=bV T sh):=HE.out;have HKE:Hid (k=e->lD (tS T k)=true):=fun h=>by rw[h];exact e3
  obtain⟨x,Hx⟩:∃x,Hid (tS T k=x):=⟨_,rfl⟩
  rw[Hx.out]at q0 HE HKE;have hOw:=HW.out.own;obtain⟨n,Hn⟩:∃n,Hid (T.length=n):=⟨_,rfl⟩
  cases h1:(x.toList == [36,61])
  ·cases h2:(x.toList == [36,46])
   ·have hke:k<e:=by
     have:¬k=e:=fun h=>by have:=HKE.out h;unfold lD at this;rw[h1,h2]at this;cases this
     omega
    have HM:Hid ((O++[x])++lk (T.drop (k+1))=bV T sh):=by
     have:=HE.out;rw[if_neg (by unfold lD;rw[h1,h2];simp)]at this
     show _=_
     rw[<-this];simp
    go_wp2_with (at_builtin;refine ng _ rfl (.tmp 37) (.tmp 46) rfl h' O x rfl hOw (by omega) rfl ?_;intro h5 w5 hw5 hg5;have HM2:=(show Hid _ from HW.out.grew hg5 hw5);clear hw5 hg5)
    go_roundg (T.length-(k+1))
    case measure=>omega
    case rel=>exact⟨k+1,h5,O++[x],⟨by omega,by omega⟩,rfl,by simp,by go_num,by simp;omega,HM,HM2⟩
   ·have HM:Hid (bV T sh=O):=by
     have:=HE.out;rw[if_pos (by unfold lD;rw[h2];simp)]at this
     show _=_
     rw[<-this];simp
    go_wp2;go_ret;exact⟨h',by rw[HM.out];rfl,by rw[HM.out];exact HW.out⟩
  ·have HM:Hid (bV T sh=O):=by
    have:=HE.out;rw[if_pos (by unfold lD;rw[h1];simp)]at this
    show _=_
    rw[<-this];simp
   go_wp2;go_ret;exact⟨h',by rw[HM.out];rfl,by rw[HM.out];exact HW.out⟩
def cg(T:List Tk)(s:Sm):ByteArray:=if(aE s.k||aH s.k)=true then tS T s.a else⟨#[]⟩
set_option maxRecDepth 100000 in
theorem ou(b j:Nat)(T:List Tk)(aoT:Option Addr)(cT:Nat)(S:List Sm)(aoS:Option Addr)(cS:Nat)(w:World)(hD:fa w b T aoT cT S aoS cS)(hj:j<S.length)(ha:S[j].a<T.length) :
  Calls Tryz.prog 87 #[.pointer (some ⟨b,0,none⟩),.int .i64 j] w fun e w'=>e=.returned (.string (cg T S[j]))/\ab [] w w':=by
 obtain⟨gS,rfl,hgS,q0,-,-,q3⟩:=hD.s.2 j S[j] (List.getElem?_eq_getElem hj);obtain⟨gT,rfl,hgT,t0,-⟩:=hD.t.2 S[j].a _ (fZ T _ ha);have HL:Hid (cg T S[j]=if(aE S[j].k||aH S[j].k)=true then tS T S[j].a else⟨#[]⟩):=rfl;replace t0:w.cell? ⟨gT,S[j].a*5,none⟩=some (.string (tS T S[j].a)):=t0;generalize cg T S[j]=R at *;generalize S[j]=s at *;obtain⟨sa,sz,sh,sk⟩:=s;simp only at q0 q3 t0 HL ha;obtain⟨x,Hx⟩:∃x,Hid (tS T sa=x):=⟨_,rfl⟩
 rw[Hx.out]at t0 HL;obtain⟨c0,c1,hb⟩:=hD.cells;have hji:(j:Int)<(S.length:Int):=by omega
 have hai:(sa:Int)<(T.length:Int):=by omega
 have hai0:(0:Int)<=(sa:Int):=by omega
 clear hD
 cases h1:aE sk
 ·cases h2:aH sk
  ·have HE:Hid (R=⟨#[]⟩):=by show _=_;rw[HL.out,h1,h2];rfl
   go_enter Tryz.func87,Tryz.ntmps87;go_wp2_with (first | (go_at_call 122;refine(fc sk _).mono ?_;rintro e w1 ⟨rfl,hw1⟩;rw[hw1];clear hw1) | (go_at_call 123;refine(kl sk _).mono ?_;rintro e w1 ⟨rfl,hw1⟩;rw[hw1];clear hw1));go_ret;exact⟨by rw[HE.out];rfl,ab.refl _ _⟩
  ·have HE:Hid (R=x):=by show _=_;rw[HL.out,h1,h2];rfl
   go_enter Tryz.func87,Tryz.ntmps87
   go_upto_region 4 with (first | (go_at_call 122;refine(fc sk _).mono ?_;rintro e w1 ⟨rfl,hw1⟩;rw[hw1];clear hw1) | (go_at_call 123;refine(kl sk _).mono ?_;rintro e w1 ⟨rfl,hw1⟩;rw[hw1];clear hw1))
   go_region
   all_goals
    go_wp2;go_ret;exact⟨by rw[HE.out];rfl,(ab.refl [] w).drew⟩
 ·have HE:Hid (R=x):=by show _=_;rw[HL.out,h1];rfl
  go_enter Tryz.func87,Tryz.ntmps87
  go_upto_region 4 with (first | (go_at_call 122;refine(fc sk _).mono ?_;rintro e w1 ⟨rfl,hw1⟩;rw[hw1];clear hw1) | (go_at_call 123;refine(kl sk _).mono ?_;rintro e w1 ⟨rfl,hw1⟩;rw[hw1];clear hw1))
  go_region
  all_goals
   go_wp2;go_ret;exact⟨by rw[HE.out];rfl,(ab.refl [] w).drew⟩
def LP:Sm:=⟨0,0,0,⟨#[]⟩⟩
def au(S:List Sm)(j:Nat):Sm:=S.getD j LP
theorem bC(S:List Sm)(j:Nat)(h:j<S.length):S[j]'h=au S j:=by
 unfold au;rw[List.getD_eq_getElem?_getD,List.getElem?_eq_getElem h];rfl
def nG(T:List Tk)(S:List Sm)(key x:ByteArray)(n:Nat)(act:Bool)(j:Nat):Bool:=((au S j).k.toList==key.toList)&&(aI (bV T (au S j).h) x&&(bB S j n || !act))
def io(T:List Tk)(S:List Sm)(key x:ByteArray)(n:Nat)(act:Bool):Bool:=(List.range n).any (nG T S key x n act)
theorem dD{p:Nat->Bool}{k:Nat}(h:∀j,j<k->p j=false)(hk:p k=false):∀j,j<k+1->p j=false:=fun j hj=>by
 by_cases e:j=k
 ·rw[e];exact hk
 ·exact h j (by omega)
set_option maxRecDepth 100000 in
theorem mF(b n:Nat)(key x:ByteArray)(act:Bool)(T:List Tk)(aoT:Option Addr)(cT:Nat)(S:List Sm)(aoS:Option Addr)(cS:Nat)(w:World)(hD:fa w b T aoT cT S aoS cS)(hn:n<=S.length)(hS:S.length<=100000)(hT:T.length<=100000)(hE:∀j,j<n->((au S j).k.toList==key.toList)=true->eF T (au S j).h) :
  Calls Tryz.prog 212 #[.pointer (some ⟨b,0,none⟩),.string key,.string x,.int .i64 n,.bool act] w fun e w'=>e=.returned (.bool (io T S key x n act))/\ab [] w w':=by
 have HD:=(show Hid _ from hD);clear hD;go_enter Tryz.func212,Tryz.ntmps212;go_wp2
 go_loopg [11] n (fun g i wr=>∃k:Nat,k<=n/\g=n-k/\i=.int .i64 k/\Hid (∀j,j<k->nG T S key x n act j=false)/\Hid (ab [] w wr))
 case atStart=>exact⟨0,by omega,rfl,rfl,(fun j hj=>by omega),ab.refl _ _⟩
 case round =>
  obtain⟨k,hk,hg,rfl,HN,HK⟩:=hrel
  by_cases hlt:k<n
  ·have hks:k<S.length:=by omega
   have HDr:=(show Hid _ from fa.still HD.out HK.out);obtain⟨-,c1,hb⟩:=HDr.out.cells;obtain⟨gs,rfl,hgs,-,-,-,q3⟩:=HDr.out.s.2 k S[k] (List.getElem?_eq_getElem hks);have hki:(k:Int)<(n:Int):=by omega
   have hki2:(k:Int)<(S.length:Int):=by omega
   have HP:Hid (nG T S key x n act k=((S[k].k.toList==key.toList)&&(aI (bV T S[k].h) x&&(bB S k n || !act)))):=by show _=_;unfold nG;rw[bC S k hks]
   have HEk:Hid ((S[k].k.toList==key.toList)=true->eF T S[k].h):=by have:=hE k hlt;rw[<-bC S k hks]at this;exact this
   have HBD:Hid ((S[k].k.toList==key.toList)=true->∀wx,ab [] w wx->Calls Tryz.prog 72 #[.pointer (some ⟨b,0,none⟩),.int .i64 k] wx fun e w'=>∃h',e=.returned (.slice h'.ao (bV T S[k].h).length h'.cap)/\tP wx w' h' (bV T S[k].h)):=fun h wx kx=>ki b k T aoT cT S _ cS wx (fa.still HD.out kx) hks hT (HEk.out h)
   have HBL:=jQ T S[k].h;have HAC:Hid (∀wx,ab [] w wx->Calls Tryz.prog 92 #[.pointer (some ⟨b,0,none⟩),.int .i64 k,.int .i64 n] wx fun e w'=>e=.returned (.bool (bB S k n))/\w'=wx):=fun wx kx=>j5 b k n T aoT cT S _ cS wx (fa.still HD.out kx) (by omega) hn hS
   clear HEk;generalize bV T S[k].h=B at *;generalize S[k].k=sk at *;obtain⟨ac,Hac⟩:∃ac,Hid (bB S k n=ac):=⟨_,rfl⟩
   rw[Hac.out]at HP HAC
   cases h1:(sk.toList==key.toList)
   ·have HM:=(show Hid _ from dD HN.out (by rw[HP.out,h1];rfl))
    go_wp2
    go_roundg (n-(k+1))
    case measure=>omega
    case rel=>exact⟨k+1,by omega,rfl,by go_num,HM,HK⟩
   ·have HB2:=(show Hid _ from HBD.out h1)
    go_upto_region 6 with (go_at_call 72;refine(HB2.out _ (by exact HK.out)).mono ?_;rintro e w2 ⟨h2,rfl,x2⟩)
    have HX2:=(show Hid _ from x2);have HK2:=(show Hid _ from HK.out.trans x2.kept);have HAM:=(show Hid _ from je B h2.ao h2.cap x w2 x2.own.srcX (by omega));clear x2 c1 q3;obtain⟨hs,Hhs⟩:∃hs,Hid (aI B x=hs):=⟨_,rfl⟩
    rw[Hhs.out]at HAM HP
    cases hs
    ·have HM:=(show Hid _ from dD HN.out (by rw[HP.out,h1];rfl))
     go_wp2_with (go_at_call 93;refine Calls.mono HAM.out ?_;rintro e w9 ⟨rfl,hw9⟩;rw[hw9];clear hw9)
     go_roundg (n-(k+1))
     case measure=>omega
     case rel=>exact⟨k+1,by omega,rfl,by go_num,HM,HK2⟩
    ·have HA2:=(show Hid _ from HAC.out w2 HK2.out)
     cases ac
     ·cases act
      ·have HM:Hid (io T S key x n false=true):=lI k hlt (by rw[HP.out,h1];rfl)
       go_wp2_with (first | (go_at_call 93;refine Calls.mono HAM.out ?_;rintro e w9 ⟨rfl,hw9⟩;rw[hw9];clear hw9) | (go_at_call 92;refine Calls.mono HA2.out ?_;rintro e w9 ⟨rfl,hw9⟩;rw[hw9];clear hw9));go_ret;exact⟨aB HM.out.symm,HK2.out⟩
      ·have HM:=(show Hid _ from dD HN.out (by rw[HP.out,h1];rfl))
       go_wp2_with (first | (go_at_call 93;refine Calls.mono HAM.out ?_;rintro e w9 ⟨rfl,hw9⟩;rw[hw9];clear hw9) | (go_at_call 92;refine Calls.mono HA2.out ?_;rintro e w9 ⟨rfl,hw9⟩;rw[hw9];clear hw9))
       go_roundg (n-(k+1))
       case measure=>omega
       case rel=>exact⟨k+1,by omega,rfl,by go_num,HM,HK2⟩
     ·have HM:Hid (io T S key x n act=true):=lI k hlt (by rw[HP.out,h1];simp)
      go_wp2_with (first | (go_at_call 93;refine Calls.mono HAM.out ?_;rintro e w9 ⟨rfl,hw9⟩;rw[hw9];clear hw9) | (go_at_call 92;refine Calls.mono HA2.out ?_;rintro e w9 ⟨rfl,hw9⟩;rw[hw9];clear hw9));go_ret;exact⟨aB HM.out.symm,HK2.out⟩
  ·have HM:Hid (io T S key x n act=false):=tT (fun j hj=>HN.out j (by omega))
   go_wp2;go_ret;exact⟨aB HM.out.symm,HK.out⟩
def sD(T:List Tk)(S:List Sm)(n:Nat)(key:List UInt8):Prop:=∀j,j<n->((au S j).k.toList==key)=true->eF T (au S j).h
theorem mm:(⟨#[36,99]⟩:ByteArray).toList=[36,99]/\(⟨#[36,118]⟩:ByteArray).toList=[36,118]:=by decide +kernel
def dM(T:List Tk)(S:List Sm)(x:ByteArray)(n:Nat):Bool:=io T S ⟨#[36,99]⟩ x n false
def jC(T:List Tk)(S:List Sm)(x:ByteArray)(n:Nat):Bool:=io T S ⟨#[36,118]⟩ x n true
theorem rh(b n:Nat)(x:ByteArray)(T:List Tk)(aoT:Option Addr)(cT:Nat)(S:List Sm)(aoS:Option Addr)(cS:Nat)(w:World)(hD:fa w b T aoT cT S aoS cS)(hn:n<=S.length)(hS:S.length<=100000)(hT:T.length<=100000)(hE:sD T S n [36,99]) :
  Calls Tryz.prog 172 #[.pointer (some ⟨b,0,none⟩),.string x,.int .i64 n] w fun e w'=>e=.returned (.bool (dM T S x n))/\ab [] w w':=by
 have H:=(show Hid _ from mF b n ⟨#[36,99]⟩ x false T aoT cT S aoS cS w hD hn hS hT (by rw[mm.1];exact hE));go_enter Tryz.func172,Tryz.ntmps172;go_wp2_with fail;refine Calls.mono H.out ?_;rintro e w1 ⟨rfl,k1⟩;go_wp2;go_ret;exact⟨rfl,k1⟩
theorem xK(b n:Nat)(x:ByteArray)(T:List Tk)(aoT:Option Addr)(cT:Nat)(S:List Sm)(aoS:Option Addr)(cS:Nat)(w:World)(hD:fa w b T aoT cT S aoS cS)(hn:n<=S.length)(hS:S.length<=100000)(hT:T.length<=100000)(hE:sD T S n [36,118]) :
  Calls Tryz.prog 173 #[.pointer (some ⟨b,0,none⟩),.string x,.int .i64 n] w fun e w'=>e=.returned (.bool (jC T S x n))/\ab [] w w':=by
 have H:=(show Hid _ from mF b n ⟨#[36,118]⟩ x true T aoT cT S aoS cS w hD hn hS hT (by rw[mm.2];exact hE));go_enter Tryz.func173,Tryz.ntmps173;go_wp2_with fail;refine Calls.mono H.out ?_;rintro e w1 ⟨rfl,k1⟩;go_wp2;go_ret;exact⟨rfl,k1⟩
def oF(T:List Tk)(S:List Sm)(x:ByteArray)(j:Nat):Bool:=!((cg T (au S j)).toList == [])&&((cg T (au S j)).toList==x.toList)
def bn(T:List Tk)(S:List Sm)(x:ByteArray)(n:Nat):Int:=match (List.range n).find? (oF T S x) with
 | some j=>j
 | none=>-1
theorem wP{T:List Tk}{S:List Sm}{x:ByteArray}{n k:Nat}(hk:k<n)(h:oF T S x k=true)(ha:∀j,j<k->oF T S x j=false):bn T S x n=k:=by
 have e:(List.range n).find? (oF T S x)=some k:=by
  rw[List.find?_range_eq_some];exact⟨h,List.mem_range.2 hk,fun j hj=>by rw[ha j hj];rfl⟩
 unfold bn;rw[e]
theorem zB{T:List Tk}{S:List Sm}{x:ByteArray}{n:Nat}(ha:∀j,j<n->oF T S x j=false):bn T S x n=-1:=by
 have e:(List.range n).find? (oF T S x)=none:=by
  rw[List.find?_eq_none];intro j hj;rw[ha j (List.mem_range.1 hj)];simp
 unfold bn;rw[e]
set_option maxRecDepth 100000 in
theorem mJ(b n:Nat)(x:ByteArray)(T:List Tk)(aoT:Option Addr)(cT:Nat)(S:List Sm)(aoS:Option Addr)(cS:Nat)(w:World)(hD:fa w b T aoT cT S aoS cS)(hn:n<=S.length)(hS:S.length<=100000)(ha:∀j,j<n->(au S j).a<T.length) :
  Calls Tryz.prog 171 #[.pointer (some ⟨b,0,none⟩),.string x,.int .i64 n] w fun e w'=>e=.returned (.int .i64 (bn T S x n))/\ab [] w w':=by
 have HD:=(show Hid _ from hD);clear hD;go_enter Tryz.func171,Tryz.ntmps171;go_wp2
 go_loopg [7] n (fun g i wr=>∃k:Nat,k<=n/\g=n-k/\i=.int .i64 k/\Hid (∀j,j<k->oF T S x j=false)/\Hid (ab [] w wr))
 case atStart=>exact⟨0,by omega,rfl,rfl,(fun j hj=>by omega),ab.refl _ _⟩
 case round =>
  obtain⟨k,hk,hg,rfl,HN,HK⟩:=hrel
  by_cases hlt:k<n
  ·have hks:k<S.length:=by omega
   have hki:(k:Int)<(n:Int):=by omega
   have HP:Hid (oF T S x k=(!((cg T S[k]).toList == [])&&((cg T S[k]).toList==x.toList))):=by show _=_;unfold oF;rw[bC S k hks]
   have HLB:=(show Hid _ from ou b k T aoT cT S aoS cS wr (fa.still HD.out HK.out) hks (by rw[bC S k hks];exact ha k hlt));generalize cg T S[k]=l at *
   cases h1:(l.toList == [])
   ·cases h2:(l.toList==x.toList)
    ·have HM:=(show Hid _ from dD HN.out (by rw[HP.out,h2];simp))
     go_wp2_with (go_at_call 87;refine Calls.mono HLB.out ?_;rintro e w9 ⟨rfl,k9⟩;have HK9:=(show Hid _ from HK.out.trans k9))
     go_roundg (n-(k+1))
     case measure=>omega
     case rel=>exact⟨k+1,by omega,rfl,by go_num,HM,HK9⟩
    ·have HM:Hid (bn T S x n=k):=wP hlt (by rw[HP.out,h1,h2];rfl) HN.out
     go_wp2_with (go_at_call 87;refine Calls.mono HLB.out ?_;rintro e w9 ⟨rfl,k9⟩;have HK9:=(show Hid _ from HK.out.trans k9));go_ret;exact⟨am HM.out.symm,HK9.out⟩
   ·have HM:=(show Hid _ from dD HN.out (by rw[HP.out,h1];rfl))
    go_wp2_with (go_at_call 87;refine Calls.mono HLB.out ?_;rintro e w9 ⟨rfl,k9⟩;have HK9:=(show Hid _ from HK.out.trans k9))
    go_roundg (n-(k+1))
    case measure=>omega
    case rel=>exact⟨k+1,by omega,rfl,by go_num,HM,HK9⟩
  ·have HM:Hid (bn T S x n=-1):=zB (fun j hj=>HN.out j (by omega))
   go_wp2;go_ret;exact⟨am HM.out.symm,HK.out⟩
structure ji(T:List Tk)(S:List Sm)(n:Nat):Prop where
 m:n<=S.length
 s:S.length<=100000
 t:T.length<=100000
 c:sD T S n [36,99]
 v:sD T S n [36,118]
 a:∀j,j<n->(au S j).a<T.length
def iu(T:List Tk)(S:List Sm)(x:ByteArray)(n:Nat):Bool:=decide (0<=bn T S x n)||(dM T S x n||io T S ⟨#[36,118]⟩ x n false)
set_option maxRecDepth 100000 in
theorem uL(b n:Nat)(x:ByteArray)(T:List Tk)(aoT:Option Addr)(cT:Nat)(S:List Sm)(aoS:Option Addr)(cS:Nat)(w:World)(hD:fa w b T aoT cT S aoS cS)(ok:ji T S n) :
  Calls Tryz.prog 170 #[.pointer (some ⟨b,0,none⟩),.string x,.int .i64 n] w fun e w'=>e=.returned (.bool (iu T S x n))/\ab [] w w':=by
 have H1:=(show Hid _ from mJ b n x T aoT cT S aoS cS w hD ok.m ok.s ok.a);have H2:Hid (∀wx,ab [] w wx->Calls Tryz.prog 172 #[.pointer (some ⟨b,0,none⟩),.string x,.int .i64 n] wx fun e w'=>e=.returned (.bool (dM T S x n))/\ab [] wx w'):=fun wx k=>rh b n x T aoT cT S aoS cS wx (hD.still k) ok.m ok.s ok.t ok.c
 have H3:Hid (∀wx,ab [] w wx->Calls Tryz.prog 212 #[.pointer (some ⟨b,0,none⟩),.string ⟨#[36,118]⟩,.string x,.int .i64 n,.bool false] wx fun e w'=>e=.returned (.bool (io T S ⟨#[36,118]⟩ x n false))/\ab [] wx w'):=fun wx k=>mF b n ⟨#[36,118]⟩ x false T aoT cT S aoS cS wx (hD.still k) ok.m ok.s ok.t (by rw[mm.2];exact ok.v)
 have HR:Hid (iu T S x n=(decide (0<=bn T S x n)||(dM T S x n||io T S ⟨#[36,118]⟩ x n false))):=rfl;generalize iu T S x n=R at *;generalize bn T S x n=l at *;generalize dM T S x n=c at *;generalize io T S ⟨#[36,118]⟩ x n false=v at *;clear hD;go_enter Tryz.func170,Tryz.ntmps170
 go_upto_region 2 with (go_at_call 171;refine Calls.mono H1.out ?_;rintro e w1 ⟨rfl,k1⟩)
 have H2:=(show Hid _ from H2.out w1 k1)
 go_upto_region 3 with (go_at_call 172;refine Calls.mono H2.out ?_;rintro e w2 ⟨rfl,k2⟩)
 have H3:=(show Hid _ from H3.out w2 (k1.trans k2))
 go_upto_region 4 with (go_at_call 212;refine Calls.mono H3.out ?_;rintro e w3 ⟨rfl,k3⟩)
 have HK:=(show Hid _ from(k1.trans k2).trans k3)
 by_cases h1:0<=l
 ·have HE:Hid (R=true):=by show _=_;rw[HR.out];simp[h1]
  go_wp2;go_ret;exact⟨aB HE.out.symm,HK.out⟩
 ·cases c
  ·have HE:Hid (R=v):=by show _=_;rw[HR.out];simp[h1]
   go_wp2;go_ret;exact⟨aB HE.out.symm,HK.out⟩
  ·have HE:Hid (R=true):=by show _=_;rw[HR.out];simp
   go_wp2;go_ret;exact⟨aB HE.out.symm,HK.out⟩
def iY(T:List Tk)(S:List Sm)(x:ByteArray)(n:Nat)(con:Bool)(before:List ByteArray):Int :=
 if aI before x=true then 13 else if(con&&iu T S x n)=true then 13 else if(!con&&(decide (0<=bn T S x n)||(dM T S x n||jC T S x n)))=true then 13 else 0
set_option maxRecDepth 100000 in
theorem EO(b n:Nat)(x:ByteArray)(con:Bool)(before:List ByteArray)(aoB:Option Addr)(cB:Nat)(T:List Tk)(aoT:Option Addr)(cT:Nat)(S:List Sm)(aoS:Option Addr)(cS:Nat)(w:World)(hD:fa w b T aoT cT S aoS cS)(ok:ji T S n)(hB:ii w aoB before)(hBl:before.length<=1000000) :
  Calls Tryz.prog 125 #[.pointer (some ⟨b,0,none⟩),.string x,.int .i64 n,.bool con,.slice aoB before.length cB] w fun e w'=>e=.returned (.int .i64 (iY T S x n con before))/\ab [] w w':=by
 have H0:=(show Hid _ from je before aoB cB x w hB (by omega));have H1:=(show Hid _ from uL b n x T aoT cT S aoS cS w hD ok);have H2:Hid (∀wx,ab [] w wx->Calls Tryz.prog 171 #[.pointer (some ⟨b,0,none⟩),.string x,.int .i64 n] wx fun e w'=>e=.returned (.int .i64 (bn T S x n))/\ab [] wx w'):=fun wx k=>mJ b n x T aoT cT S aoS cS wx (hD.still k) ok.m ok.s ok.a
 have H3:Hid (∀wx,ab [] w wx->Calls Tryz.prog 172 #[.pointer (some ⟨b,0,none⟩),.string x,.int .i64 n] wx fun e w'=>e=.returned (.bool (dM T S x n))/\ab [] wx w'):=fun wx k=>rh b n x T aoT cT S aoS cS wx (hD.still k) ok.m ok.s ok.t ok.c
 have H4:Hid (∀wx,ab [] w wx->Calls Tryz.prog 173 #[.pointer (some ⟨b,0,none⟩),.string x,.int .i64 n] wx fun e w'=>e=.returned (.bool (jC T S x n))/\ab [] wx w'):=fun wx k=>xK b n x T aoT cT S aoS cS wx (hD.still k) ok.m ok.s ok.t ok.v
 have HR:Hid (iY T S x n con before=if aI before x=true then 13 else if(con&&iu T S x n)=true then 13 else if(!con&&(decide (0<=bn T S x n)||(dM T S x n||jC T S x n)))=true then 13 else 0):=rfl;generalize iY T S x n con before=R at *;generalize aI before x=ag at *;generalize iu T S x n=tk at *;generalize bn T S x n=l at *;generalize dM T S x n=c at *;generalize jC T S x n=v at *;clear hD;go_enter Tryz.func125,Tryz.ntmps125
 go_upto_region 2 with (go_at_call 93;refine Calls.mono H0.out ?_;rintro e w9 ⟨rfl,hw9⟩;rw[hw9];clear hw9)
 go_upto_region 3 with (go_at_call 170;refine Calls.mono H1.out ?_;rintro e w1 ⟨rfl,k1⟩)
 have H2:=(show Hid _ from H2.out w1 k1)
 go_upto_region 4 with (go_at_call 171;refine Calls.mono H2.out ?_;rintro e w2 ⟨rfl,k2⟩)
 have H3:=(show Hid _ from H3.out w2 (k1.trans k2))
 go_upto_region 5 with (go_at_call 172;refine Calls.mono H3.out ?_;rintro e w3 ⟨rfl,k3⟩)
 have H4:=(show Hid _ from H4.out w3 ((k1.trans k2).trans k3))
 go_upto_region 6 with (go_at_call 173;refine Calls.mono H4.out ?_;rintro e w4 ⟨rfl,k4⟩)
 have HK:=(show Hid _ from((k1.trans k2).trans k3).trans k4);clear H0 H1 H2 H3 H4 k1 k2 k3 k4
 cases ag
 ·cases con
  ·by_cases h1:0<=l
   ·have HE:Hid (R=13):=by show _=_;rw[HR.out];simp[h1]
    go_wp2;go_ret;exact⟨am HE.out.symm,HK.out⟩
   ·cases c
    ·cases v
     ·have HE:Hid (R=0):=by show _=_;rw[HR.out];simp[h1]
      go_wp2;go_ret;exact⟨am HE.out.symm,HK.out⟩
     ·have HE:Hid (R=13):=by show _=_;rw[HR.out];simp
      go_wp2;go_ret;exact⟨am HE.out.symm,HK.out⟩
    ·have HE:Hid (R=13):=by show _=_;rw[HR.out];simp
     go_wp2;go_ret;exact⟨am HE.out.symm,HK.out⟩
  ·cases tk
   ·have HE:Hid (R=0):=by show _=_;rw[HR.out];simp
    go_wp2;go_ret;exact⟨am HE.out.symm,HK.out⟩
   ·have HE:Hid (R=13):=by show _=_;rw[HR.out];simp
    go_wp2;go_ret;exact⟨am HE.out.symm,HK.out⟩
 ·have HE:Hid (R=13):=by show _=_;rw[HR.out];simp
  go_wp2;go_ret;exact⟨am HE.out.symm,HK.out⟩
def gd(key:ByteArray)(before:List ByteArray):Int :=
 if before.length=0 then 15 else if(((key.toList == [36,100])||(key.toList == [36,102]))&&decide (before.length<2))=true then 15 else if((key.toList == [36,112]) && !(aI before ⟨#[36,61]⟩))=true then 23 else 0
set_option maxRecDepth 100000 in
theorem zp(key:ByteArray)(before:List ByteArray)(aoB:Option Addr)(cB:Nat)(w:World)(hB:ii w aoB before)(hBl:before.length<=1000000) :
  Calls Tryz.prog 124 #[.string key,.slice aoB before.length cB] w fun e w'=>e=.returned (.int .i64 (gd key before))/\w'=w:=by
 have H0:=(show Hid _ from je before aoB cB ⟨#[36,61]⟩ w hB (by omega));have HR:Hid (gd key before=if before.length=0 then 15 else if(((key.toList == [36,100])||(key.toList == [36,102]))&&decide (before.length<2))=true then 15 else if((key.toList == [36,112]) && !(aI before ⟨#[36,61]⟩))=true then 23 else 0):=rfl;generalize gd key before=R at *;generalize aI before ⟨#[36,61]⟩=pf at *;generalize before.length=n at *;clear hB
 by_cases hn:n=0
 ·have HE:Hid (R=15):=by show _=_;rw[HR.out,if_pos hn]
  subst hn;go_enter Tryz.func124,Tryz.ntmps124;go_wp2_with (go_at_call 93;refine Calls.mono H0.out ?_;rintro e w9 ⟨rfl,hw9⟩;rw[hw9];clear hw9);go_ret;exact⟨am HE.out.symm,rfl⟩
 ·rw[if_neg hn]at HR
  have hni:((n:Int)==0)=false:=by simpa using hn
  go_enter Tryz.func124,Tryz.ntmps124
  go_upto_region 3 with (go_at_call 93;refine Calls.mono H0.out ?_;rintro e w9 ⟨rfl,hw9⟩;rw[hw9];clear hw9)
  by_cases h2:n<2
  ·have h2i:(n:Int)<2:=by omega
   cases h3:(key.toList == [36,100]) <;> cases h4:(key.toList == [36,102]) <;> cases h5:(key.toList == [36,112]) <;> cases pf
   all_goals
    go_wp2;go_ret;exact⟨am (by rw[HR.out];simp[h2,h3,h4,h5]),rfl⟩
  ·have h2i:¬(n:Int)<2:=by omega
   cases h3:(key.toList == [36,100]) <;> cases h4:(key.toList == [36,102]) <;> cases h5:(key.toList == [36,112]) <;> cases pf
   all_goals
    go_wp2;go_ret;exact⟨am (by rw[HR.out];simp[h2,h3,h4,h5]),rfl⟩
set_option maxRecDepth 100000 in
theorem wZ(s:ByteArray)(w:World)(hs:s.size<=1073741824) :
  Calls Tryz.prog 169 #[.string s] w fun e w'=>e=.returned (.bool (fC s))/\w'=w:=by
 go_enter Tryz.func169,Tryz.ntmps169;go_wp2
 go_loopg [3] s.size (fun g i wr=>∃k:Nat,k<=s.size/\g=s.size-k/\i=.int .i64 k/\Hid (∀i,i<k->iw (aF s i)=true)/\wr=w)
 case atStart=>exact⟨0,by omega,by omega,rfl,fun i h=>by omega,rfl⟩
 case round =>
  obtain⟨k,hk,hg,rfl,hall,rfl⟩:=hrel
  by_cases hlt:k<s.size
  ·have HNO:Hid (iw (s[k].toNat:Int)=false->fC s=false):=fun hb=>Ax k hlt (by rw[bI s k hlt];exact hb)
   have HYE:Hid (iw (s[k].toNat:Int)=true->∀i,i<k+1->iw (aF s i)=true):=fun hb i hi=>by
    by_cases e:i=k
    ·subst e;rw[bI s i hlt];exact hb
    ·exact hall.out i (by omega)
   have hki:(k:Int)<(s.size:Int):=by omega
   go_upto_region 5 with fail
   obtain⟨c,hc⟩:∃c:Int,(s[k].toNat:Int)=c:=⟨_,rfl⟩
   have Hc:=(show Hid _ from hc);clear hc;rw[Hc.out]at HNO HYE ⊢
   go_cut [5] from 18 to 23 (fun s5 wd=>s5=.bool (decide (97<=c)&&decide (c<=122))/\wd=wr)
   case first =>
    by_cases h1:97<=c
    ·by_cases h2:c<=122
     ·go_wp2_with fail
      go_meet
      case rel=>exact⟨by simp;omega,rfl⟩
     ·go_wp2_with fail
      go_meet
      case rel=>exact⟨by simp;omega,rfl⟩
    ·go_wp2_with fail
     go_meet
     case rel=>exact⟨by simp;omega,rfl⟩
   case rest =>
    obtain⟨rfl,hwc⟩:=hcut;subst hwc;obtain⟨a1,Ha1⟩:∃a1,Hid ((decide (97<=c)&&decide (c<=122))=a1):=⟨_,rfl⟩
    rw[Ha1.out]
    go_upto_region 6 with fail
    go_cut [6] from 24 to 29 (fun s6 wd=>s6=.bool (decide (65<=c)&&decide (c<=90))/\wd=wc)
    case first =>
     by_cases h1:65<=c
     ·by_cases h2:c<=90
      ·go_wp2_with fail
       go_meet
       case rel=>exact⟨by simp;omega,rfl⟩
      ·go_wp2_with fail
       go_meet
       case rel=>exact⟨by simp;omega,rfl⟩
     ·go_wp2_with fail
      go_meet
      case rel=>exact⟨by simp;omega,rfl⟩
    case rest =>
     obtain⟨rfl,hwc⟩:=hcut;subst hwc;obtain⟨a2,Ha2⟩:∃a2,Hid ((decide (65<=c)&&decide (c<=90))=a2):=⟨_,rfl⟩
     rw[Ha2.out]
     go_upto_region 7 with fail
     go_cut [7] from 30 to 35 (fun s7 wd=>s7=.bool (decide (48<=c)&&decide (c<=57))/\wd=wc)
     case first =>
      by_cases h1:48<=c
      ·by_cases h2:c<=57
       ·go_wp2_with fail
        go_meet
        case rel=>exact⟨by simp;omega,rfl⟩
       ·go_wp2_with fail
        go_meet
        case rel=>exact⟨by simp;omega,rfl⟩
      ·go_wp2_with fail
       go_meet
       case rel=>exact⟨by simp;omega,rfl⟩
     case rest =>
      obtain⟨rfl,hwc⟩:=hcut;subst hwc;obtain⟨a3,Ha3⟩:∃a3,Hid ((decide (48<=c)&&decide (c<=57))=a3):=⟨_,rfl⟩
      rw[Ha3.out]
      go_upto_region 8 with fail
      go_cut [8] from 36 to 45 (fun s8 wd=>s8=.bool ((c==45)||(c==95)||(c==46))/\wd=wc)
      case first =>
       cases h1:(c==45)
       ·cases h2:(c==95)
        ·go_wp2_with fail
         go_meet
         case rel=>exact⟨by rw[h1,h2];simp,rfl⟩
        ·go_wp2_with fail
         go_meet
         case rel=>exact⟨by rw[h1,h2];simp,rfl⟩
       ·go_wp2_with fail
        go_meet
        case rel=>exact⟨by rw[h1];simp,rfl⟩
      case rest =>
       obtain⟨rfl,hwc⟩:=hcut;subst hwc;obtain⟨a4,Ha4⟩:∃a4,Hid (((c==45)||(c==95)||(c==46))=a4):=⟨_,rfl⟩
       rw[Ha4.out];have HL:Hid (iw c=(a1||(a2||(a3||a4)))):=by show _=_;rw[<-Ha1.out,<-Ha2.out,<-Ha3.out,<-Ha4.out];unfold iw;simp only[Bool.or_assoc]
       clear Ha1 Ha2 Ha3 Ha4
       cases a1 <;> cases a2 <;> cases a3 <;> cases a4
       ·have HN:=(show Hid _ from HNO.out (by rw[HL.out];rfl))
        go_wp2;go_ret;exact⟨aB HN.out.symm,rfl⟩
       all_goals
        have HN:=(show Hid _ from HYE.out (by rw[HL.out];rfl));go_wp2
        go_roundg (s.size-(k+1))
        case measure=>omega
        case rel=>exact⟨k+1,by omega,rfl,by go_num,HN,rfl⟩
  ·have HY:Hid (fC s=true):=xr (fun i hi=>hall.out i (by omega))
   go_wp2;go_ret;exact⟨aB HY.out.symm,rfl⟩
def cU(T:List Tk)(S:List Sm)(x:ByteArray)(n:Nat):Int :=
 if((x.toList == [36,123])||((x.toList == [36,118])||(x.toList == [36,100])))=true then 0
 else if((x.toList == [36,125])&&(bF S n==0))=true then 9
 else if(x.toList == [36,125])=true then 0
 else if((x.toList == [36,99])&&decide (0<bF S n))=true then 10
 else if(x.toList == [36,99])=true then 0
 else if(aE x||aH x)=true then 11
 else if fX x ⟨#[36]⟩=true then 8
 else if fC x=false then 12
 else if iu T S x n=true then 13 else 0
set_option maxRecDepth 100000 in
theorem Cf(b n:Nat)(x:ByteArray)(T:List Tk)(aoT:Option Addr)(cT:Nat)(S:List Sm)(aoS:Option Addr)(cS:Nat)(w:World)(hD:fa w b T aoT cT S aoS cS)(ok:ji T S n)(hx:x.size<=1073741824) :
  Calls Tryz.prog 121 #[.pointer (some ⟨b,0,none⟩),.string x,.int .i64 n] w fun e w'=>e=.returned (.int .i64 (cU T S x n))/\ab [] w w':=by
 have H1:=(show Hid _ from BJ b n T aoT cT S aoS cS w hD ok.m ok.s);have H2:=(show Hid _ from uL b n x T aoT cT S aoS cS w hD ok)
 have HR:Hid (cU T S x n=if((x.toList == [36,123])||((x.toList == [36,118])||(x.toList == [36,100])))=true then 0
  else if((x.toList == [36,125])&&(bF S n==0))=true then 9
  else if(x.toList == [36,125])=true then 0
  else if((x.toList == [36,99])&&decide (0<bF S n))=true then 10
  else if(x.toList == [36,99])=true then 0
  else if(aE x||aH x)=true then 11
  else if fX x ⟨#[36]⟩=true then 8
  else if fC x=false then 12
  else if iu T S x n=true then 13 else 0):=rfl
 generalize cU T S x n=R at *;generalize bF S n=dp at *;generalize iu T S x n=tk at *;clear hD;go_enter Tryz.func121,Tryz.ntmps121
 go_upto_region 5 with (first | (go_at_call 168;refine Calls.mono H1.out ?_;rintro e w9 ⟨rfl,hw9⟩;rw[hw9];clear hw9) | (go_at_call 120;refine(eL x _ _ (by omega) (by show 1<=_;omega)).mono ?_;rintro e w9 ⟨rfl,hw9⟩;rw[hw9];clear hw9) | (go_at_call 169;refine(wZ x _ hx).mono ?_;rintro e w9 ⟨rfl,hw9⟩;rw[hw9];clear hw9) | (go_at_call 170;refine Calls.mono H2.out ?_;rintro e w1 ⟨rfl,k1⟩))
 go_upto_region 7 with (first | (go_at_call 122;refine(fc x _).mono ?_;rintro e w9 ⟨rfl,hw9⟩;rw[hw9];clear hw9) | (go_at_call 123;refine(kl x _).mono ?_;rintro e w9 ⟨rfl,hw9⟩;rw[hw9];clear hw9))
 have HK:=(show Hid _ from k1);generalize aE x=ya at *;generalize aH x=yu at *;generalize fX x ⟨#[36]⟩=yd at *;generalize fC x=yg at *;clear H1 H2 k1
 cases h1:(x.toList == [36,123])
 ·cases h2:(x.toList == [36,118])
  ·cases h3:(x.toList == [36,100])
   ·cases h4:(x.toList == [36,125])
    ·cases h5:(x.toList == [36,99])
     ·cases ya
      ·cases yu
       ·cases yd
        ·cases yg
         ·have HE:Hid (R=12):=by show _=_;rw[HR.out];simp[h1,h2,h3,h4,h5]
          go_wp2;go_ret;exact⟨am HE.out.symm,HK.out⟩
         ·cases tk
          ·have HE:Hid (R=0):=by show _=_;rw[HR.out];simp[h1,h2,h3,h4,h5]
           go_wp2;go_ret;exact⟨am HE.out.symm,HK.out⟩
          ·have HE:Hid (R=13):=by show _=_;rw[HR.out];simp[h1,h2,h3,h4,h5]
           go_wp2;go_ret;exact⟨am HE.out.symm,HK.out⟩
        ·have HE:Hid (R=8):=by show _=_;rw[HR.out];simp[h1,h2,h3,h4,h5]
         go_wp2;go_ret;exact⟨am HE.out.symm,HK.out⟩
       ·have HE:Hid (R=11):=by show _=_;rw[HR.out];simp[h1,h2,h3,h4,h5]
        go_wp2;go_ret;exact⟨am HE.out.symm,HK.out⟩
      ·have HE:Hid (R=11):=by show _=_;rw[HR.out];simp[h1,h2,h3,h4,h5]
       go_wp2;go_ret;exact⟨am HE.out.symm,HK.out⟩
     ·by_cases hp:0<dp
      ·have HE:Hid (R=10):=by show _=_;rw[HR.out];simp[h1,h2,h3,h4,h5,hp]
       go_wp2;go_ret;exact⟨am HE.out.symm,HK.out⟩
      ·have HE:Hid (R=0):=by show _=_;rw[HR.out];simp[h1,h2,h3,h4,h5,hp]
       go_wp2;go_ret;exact⟨am HE.out.symm,HK.out⟩
    ·cases hz:(dp==0)
     ·have HE:Hid (R=0):=by show _=_;rw[HR.out];simp[h1,h2,h3,h4,hz]
      go_wp2;go_ret;exact⟨am HE.out.symm,HK.out⟩
     ·have HE:Hid (R=9):=by show _=_;rw[HR.out];simp[h1,h2,h3,h4,hz]
      go_wp2;go_ret;exact⟨am HE.out.symm,HK.out⟩
   ·have HE:Hid (R=0):=by show _=_;rw[HR.out];simp[h1,h2,h3]
    go_wp2;go_ret;exact⟨am HE.out.symm,HK.out⟩
  ·have HE:Hid (R=0):=by show _=_;rw[HR.out];simp[h1,h2]
   go_wp2;go_ret;exact⟨am HE.out.symm,HK.out⟩
 ·have HE:Hid (R=0):=by show _=_;rw[HR.out];simp[h1]
  go_wp2;go_ret;exact⟨am HE.out.symm,HK.out⟩
end Go.Proofs.YtpddjjabfbfifaaGreat
