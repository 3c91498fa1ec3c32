import Derived.Test.YtpddjjabfbfifaaGreatG30
namespace Go.Proofs.YtpddjjabfbfifaaGreat
open Go.RowKit
set_option maxHeartbeats 40000000
def rt(T:List Tk)(S:List Sm)(v:ByteArray)(n j:Nat):Bool:=((au S j).k.toList == [36,102])&&(((tS T ((au S j).h+1)).toList==v.toList)&&bB S j n)
def fg(T:List Tk)(S:List Sm)(v:ByteArray)(n:Nat):Int:=match (List.range n).find? (rt T S v n) with
 | some j=>j
 | none=>-1
theorem DG{T:List Tk}{S:List Sm}{v:ByteArray}{n k:Nat}(hk:k<n)(h:rt T S v n k=true)(ha:∀j,j<k->rt T S v n j=false):fg T S v n=k:=by
 have e:(List.range n).find? (rt T S v n)=some k:=by
  rw[List.find?_range_eq_some];exact⟨h,List.mem_range.2 hk,fun j hj=>by rw[ha j hj];rfl⟩
 unfold fg;rw[e]
theorem Il{T:List Tk}{S:List Sm}{v:ByteArray}{n:Nat}(ha:∀j,j<n->rt T S v n j=false):fg T S v n=-1:=by
 have e:(List.range n).find? (rt T S v n)=none:=by
  rw[List.find?_eq_none];intro j hj;rw[ha j (List.mem_range.1 hj)];simp
 unfold fg;rw[e]
set_option maxRecDepth 100000 in
theorem DH(b n:Nat)(v:ByteArray)(T:List Tk)(aoT:Option Addr)(cT:Nat)(S:List Sm)(aoS:Option Addr)(cS:Nat)(w:World)(hD:fa w b T aoT cT S aoS cS)(ok:ji T S n)(hf:∀j,j<n->((au S j).k.toList == [36,102])=true->(au S j).h+1<T.length) :
  Calls Tryz.prog 174 #[.pointer (some ⟨b,0,none⟩),.string v,.int .i64 n] w fun e w'=>e=.returned (.int .i64 (fg T S v n))/\ab [] w w':=by
 have HD:=(show Hid _ from hD);have hn:=ok.m;have hS:=ok.s;have hT:=ok.t;clear hD;go_enter Tryz.func174,Tryz.ntmps174;go_wp2
 go_loopg [7] n (fun g i wr=>∃k:Nat,k<=n/\g=n-k/\i=.int .i64 k/\Hid (∀j,j<k->rt T S v n j=false)/\Hid (ab [] w wr))
 case atStart=>exact⟨0,by omega,rfl,rfl,(fun j hj=>by omega),ab.refl _ _⟩
 case round =>
  obtain⟨k,hk,hg,rfl,HN,HK⟩:=hrel
  by_cases hlt:k<n
  ·have hks:k<S.length:=by omega
   have HDr:=(show Hid _ from fa.still HD.out HK.out);obtain⟨c0,c1,hb⟩:=HDr.out.cells;obtain⟨gs,rfl,hgs,-,-,q2,q3⟩:=HDr.out.s.2 k S[k] (List.getElem?_eq_getElem hks);have hki:(k:Int)<(n:Int):=by omega
   have hki2:(k:Int)<(S.length:Int):=by omega
   have HP:Hid (rt T S v n k=((S[k].k.toList == [36,102])&&(((tS T (S[k].h+1)).toList==v.toList)&&bB S k n))):=by show _=_;unfold rt;rw[bC S k hks]
   have HF:Hid ((S[k].k.toList == [36,102])=true->S[k].h+1<T.length):=by have:=hf k hlt;rw[<-bC S k hks]at this;exact this
   have HAC:Hid (∀wx,ab [] w wx->Calls Tryz.prog 92 #[.pointer (some ⟨b,0,none⟩),.int .i64 k,.int .i64 n] wx fun e w'=>e=.returned (.bool (bB S k n))/\w'=wx):=fun wx kx=>j5 b k n T aoT cT S _ cS wx (fa.still HD.out kx) (by omega) hn hS
   generalize S[k]=s at *;obtain⟨sa,sz,sh,sk⟩:=s;simp only at q2 q3 HP HF;obtain⟨ac,Hac⟩:∃ac,Hid (bB S k n=ac):=⟨_,rfl⟩
   rw[Hac.out]at HP HAC
   cases h1:(sk.toList == [36,102])
   ·have HM:=(show Hid _ from dD HN.out (by rw[HP.out,h1];rfl))
    go_upto_region 4 with fail
    go_region
    all_goals
     have HK1:=(show Hid _ from HK.out.drew);go_wp2
     go_roundg (n-(k+1))
     case measure=>omega
     case rel=>exact⟨k+1,by omega,rfl,by go_num,HM,HK1⟩
   ·have hsl:=HF.out h1
    obtain⟨gT,rfl,hgT,t0,-⟩:=HDr.out.t.2 (sh+1) _ (fZ T (sh+1) hsl);replace t0:wr.cell? ⟨gT,(sh+1)*5,none⟩=some (.string (tS T (sh+1))):=t0;obtain⟨y,Hy⟩:∃y,Hid (tS T (sh+1)=y):=⟨_,rfl⟩
    rw[Hy.out]at t0 HP;have hsi:(sh:Int)+1<(T.length:Int):=by omega
    have hsw:IntKind.i64.wrap ((sh:Int)+1)=(sh:Int)+1:=by rw[IntKind.wrap_i64];omega
    have hsn:((sh:Int)+1).toNat=sh+1:=by omega
    have hs0:(0:Int)<=(sh:Int)+1:=by omega
    cases h2:(y.toList==v.toList)
    ·have HM:=(show Hid _ from dD HN.out (by rw[HP.out,h1,h2];rfl))
     go_upto_region 4 with fail
     go_region
     all_goals
      have HK1:=(show Hid _ from HK.out.drew);go_wp2
      go_roundg (n-(k+1))
      case measure=>omega
      case rel=>exact⟨k+1,by omega,rfl,by go_num,HM,HK1⟩
    ·go_upto_region 4 with fail
     go_region
     all_goals
      have HK1:=(show Hid _ from HK.out.drew);have HA2:=(show Hid _ from HAC.out wr.drew HK1.out)
     cases ac
     ·have HM:=(show Hid _ from dD HN.out (by rw[HP.out,h1,h2];rfl))
      go_wp2_with (go_at_call 92;refine Calls.mono HA2.out ?_;rintro e w9 ⟨rfl,hw9⟩;rw[hw9];clear hw9)
      go_roundg (n-(k+1))
      case measure=>omega
      case rel=>exact⟨k+1,by omega,rfl,by go_num,HM,HK1⟩
     ·have HM:Hid (fg T S v n=k):=DG hlt (by rw[HP.out,h1,h2];rfl) HN.out
      go_wp2_with (go_at_call 92;refine Calls.mono HA2.out ?_;rintro e w9 ⟨rfl,hw9⟩;rw[hw9];clear hw9);go_ret;exact⟨am HM.out.symm,HK1.out⟩
  ·have HM:Hid (fg T S v n=-1):=Il (fun j hj=>HN.out j (by omega))
   go_wp2;go_ret;exact⟨am HM.out.symm,HK.out⟩
def kI(T:List Tk)(S:List Sm)(n:Nat):Prop:=∀j,j<n->((au S j).k.toList == [36,102])=true->(au S j).h+1<T.length
def ik(T:List Tk)(S:List Sm)(key x:ByteArray)(n:Nat)(before:List ByteArray):Int :=
 if(key.toList == [36,100])=true then(if jC T S x n=false then 18 else if aI before x=true then 19 else 0)
 else if(before.length==0)=true then(if dM T S x n=false then 17 else 0)
 else if(key.toList == [36,102])=true then(if 1<before.length then 16 else if jC T S x n=false then 18 else if 0<=fg T S x n then 20 else 0)
 else if dM T S x n=true then 0 else if jC T S x n=false then 21 else if fg T S x n<0 then 22 else 0
set_option maxRecDepth 100000 in
theorem Ck(b n:Nat)(key x:ByteArray)(before:List ByteArray)(aoB:Option Addr)(cB:Nat)(T:List Tk)(aoT:Option Addr)(cT:Nat)(S:List Sm)(aoS:Option Addr)(cS:Nat)(w:World)(hD:fa w b T aoT cT S aoS cS)(ok:ji T S n)(hf:kI T S n)(hB:ii w aoB before)(hBl:before.length<=1000000) :
  Calls Tryz.prog 126 #[.pointer (some ⟨b,0,none⟩),.string key,.string x,.int .i64 n,.slice aoB before.length cB] w fun e w'=>e=.returned (.int .i64 (ik T S key x n before))/\ab [] w w':=by
 have H3:=(show Hid _ from rh b n x T aoT cT S aoS cS w hD ok.m ok.s ok.t ok.c);have H4:Hid (∀wx,ab [] w wx->Calls Tryz.prog 173 #[.pointer (some ⟨b,0,none⟩),.string x,.int .i64 n] wx fun e w'=>e=.returned (.bool (jC T S x n))/\ab [] wx w'):=fun wx k=>xK b n x T aoT cT S aoS cS wx (hD.still k) ok.m ok.s ok.t ok.v
 have H5:Hid (∀wx,ab [] w wx->Calls Tryz.prog 174 #[.pointer (some ⟨b,0,none⟩),.string x,.int .i64 n] wx fun e w'=>e=.returned (.int .i64 (fg T S x n))/\ab [] wx w'):=fun wx k=>DH b n x T aoT cT S aoS cS wx (hD.still k) ok hf
 have H6:Hid (∀wx,ab [] w wx->Calls Tryz.prog 93 #[.slice aoB before.length cB,.string x] wx fun e w'=>e=.returned (.bool (aI before x))/\w'=wx):=fun wx k=>je before aoB cB x wx (fun i y hy=>by
  obtain⟨g,e,hg,c⟩:=hB i y hy;exact⟨g,e,Nat.lt_of_lt_of_le hg k.size,by rw[World.cell?_of_block (k.block g hg (by simp))];exact c⟩) (by omega)
 have HR:Hid (ik T S key x n before=if(key.toList == [36,100])=true then(if jC T S x n=false then 18 else if aI before x=true then 19 else 0)
  else if(before.length==0)=true then(if dM T S x n=false then 17 else 0)
  else if(key.toList == [36,102])=true then(if 1<before.length then 16 else if jC T S x n=false then 18 else if 0<=fg T S x n then 20 else 0)
  else if dM T S x n=true then 0 else if jC T S x n=false then 21 else if fg T S x n<0 then 22 else 0):=rfl
 generalize ik T S key x n before=R at *;generalize aI before x=ag at *;generalize fg T S x n=fl at *;generalize dM T S x n=c at *;generalize jC T S x n=v at *;generalize before.length=p at *;clear hD hB;go_enter Tryz.func126,Tryz.ntmps126
 go_upto_region 3 with (go_at_call 172;refine Calls.mono H3.out ?_;rintro e w3 ⟨rfl,k3⟩)
 have H4:=(show Hid _ from H4.out w3 k3)
 go_upto_region 4 with (go_at_call 173;refine Calls.mono H4.out ?_;rintro e w4 ⟨rfl,k4⟩)
 have H5:=(show Hid _ from H5.out w4 (k3.trans k4))
 go_upto_region 5 with (go_at_call 174;refine Calls.mono H5.out ?_;rintro e w5 ⟨rfl,k5⟩)
 have HK:=(show Hid _ from(k3.trans k4).trans k5);have H6:=(show Hid _ from H6.out w5 HK.out)
 go_upto_region 6 with (go_at_call 93;refine Calls.mono H6.out ?_;rintro e w9 ⟨rfl,hw9⟩;rw[hw9];clear hw9)
 clear H3 H4 H5 H6 k3 k4 k5
 cases hd:(key.toList == [36,100])
 ·by_cases hp:p=0
  ·have hpi:((p:Int)==0)=true:=by simpa using hp
   cases c
   ·have HE:Hid (R=17):=by show _=_;rw[HR.out];simp[hd,hp]
    go_wp2;go_ret;exact⟨am HE.out.symm,HK.out⟩
   ·have HE:Hid (R=0):=by show _=_;rw[HR.out];simp[hd,hp]
    go_wp2;go_ret;exact⟨am HE.out.symm,HK.out⟩
  ·have hpi:((p:Int)==0)=false:=by simpa using hp
   cases hk:(key.toList == [36,102])
   ·cases c
    ·cases v
     ·have HE:Hid (R=21):=by show _=_;rw[HR.out];simp[hd,hp,hk]
      go_wp2;go_ret;exact⟨am HE.out.symm,HK.out⟩
     ·by_cases hf0:fl<0
      ·have hf1:fl<0:=hf0
       have HE:Hid (R=22):=by show _=_;rw[HR.out];simp[hd,hp,hk,hf0]
       go_wp2;go_ret;exact⟨am HE.out.symm,HK.out⟩
      ·have hf1:¬fl<0:=hf0
       have HE:Hid (R=0):=by show _=_;rw[HR.out];simp[hd,hp,hk,hf0]
       go_wp2;go_ret;exact⟨am HE.out.symm,HK.out⟩
    ·have HE:Hid (R=0):=by show _=_;rw[HR.out];simp[hd,hp,hk]
     go_wp2;go_ret;exact⟨am HE.out.symm,HK.out⟩
   ·by_cases h1:1<p
    ·have h1i:(1:Int)<(p:Int):=by omega
     have HE:Hid (R=16):=by show _=_;rw[HR.out];simp[hd,hp,hk,h1]
     go_wp2;go_ret;exact⟨am HE.out.symm,HK.out⟩
    ·have h1i:¬(1:Int)<(p:Int):=by omega
     cases v
     ·have HE:Hid (R=18):=by show _=_;rw[HR.out];simp[hd,hp,hk,h1]
      go_wp2;go_ret;exact⟨am HE.out.symm,HK.out⟩
     ·by_cases hf0:0<=fl
      ·have hf1:0<=fl:=hf0
       have HE:Hid (R=20):=by show _=_;rw[HR.out];simp[hd,hp,hk,h1,hf0]
       go_wp2;go_ret;exact⟨am HE.out.symm,HK.out⟩
      ·have hf1:¬0<=fl:=hf0
       have HE:Hid (R=0):=by show _=_;rw[HR.out];simp[hd,hp,hk,h1,hf0]
       go_wp2;go_ret;exact⟨am HE.out.symm,HK.out⟩
 ·cases v
  ·have HE:Hid (R=18):=by show _=_;rw[HR.out];simp[hd]
   go_wp2;go_ret;exact⟨am HE.out.symm,HK.out⟩
  ·cases ag
   ·have HE:Hid (R=0):=by show _=_;rw[HR.out];simp[hd]
    go_wp2;go_ret;exact⟨am HE.out.symm,HK.out⟩
   ·have HE:Hid (R=19):=by show _=_;rw[HR.out];simp[hd]
    go_wp2;go_ret;exact⟨am HE.out.symm,HK.out⟩
def Bg(s:Sm):List Value:=[.int .i64 s.a,.int .i64 s.z,.int .i64 s.h,.string s.k]
def Lc(L:List Sm):List Value:=L.flatMap Bg
def pM(L:List Sm):dK:=⟨145,4,L.length,Lc L⟩
theorem Ko(L:List Sm)(j:Nat)(t:Sm)(h:L[j]?=some t)(c:Nat)(hc:c<4):(Lc L)[j*4+c]?=(Bg t)[c]?:=by
 induction L generalizing j with
 | nil=>cases h
 | cons a L ih =>
  have e:Lc (a :: L)=Bg a++Lc L:=rfl
  cases j with
  | zero =>
   simp at h;subst h;rw[e,List.getElem?_append_left (by simp[Bg];omega)];simp
  | succ j =>
   rw[e,List.getElem?_append_right (by simp[Bg];omega),show(j+1)*4+c-(Bg a).length=j*4+c by simp[Bg];omega];exact ih j (by simpa using h)
theorem Dz(L:List Sm)(t:Sm):(⟨(pM L).e,(pM L).size,(pM L).n+1,(pM L).xs++Bg t⟩:dK)=pM (L++[t]):=by
 simp[pM,Lc]
theorem aA.srcS{w:World}{h:Hd}{L:List Sm}(o:aA w h (pM L)):zL w h.ao h.cap L:=by
 refine⟨?_,fun k t ht=>?_⟩
 ·rcases o.ways with ⟨e,h0,_⟩ | ⟨g,cur,e1,e2,e3,-⟩
  ·have h0:L.length=0:=h0
   omega
  ·exact e3
 ·have hk:=(List.getElem?_eq_some_iff.1 ht).1
  obtain⟨g,eg,hg,-⟩:=od o (show 0<L.length by omega);have e:∀c,c<4->∀u,(Bg t)[c]?=some u->w.cell? ⟨g,k*4+c,none⟩=some u:=fun c hc u hu=>o.cell eg (k*4+c) u (by show(Lc L)[k*4+c]?=some u;rw[Ko L k t ht c hc];exact hu)
  exact⟨g,eg,hg,e 0 (by omega) _ rfl,e 1 (by omega) _ rfl,e 2 (by omega) _ rfl,e 3 (by omega) _ rfl⟩
theorem KC:(Tryz.prog.info? 145).map (fun i=>(i.zero,i.size,i.bytes))=some (some (.agg #[.int .i64 0,.int .i64 0,.int .i64 0,.string ⟨#[]⟩]),4,40):=by kernel_rfl
theorem qL(w:World){ops:Array Oper}{rest:List Oper}{o:Oper}{a:Act}{Q:Exit->Act->World->Prop}
  (hg:o.guard=none) (s x:Operand) (hop:o.op=Op.call { callee:=Callee.builtin Builtin.append,args:=#[s,x],argTypes:=#[139,139] })
  (h:Hd) (L:List Sm) (t:Sm) (hs:a.eval s=.slice h.ao L.length h.cap) (hown:aA w h (pM L)) (hL:L.length<=1000000) (hx:a.eval x=.slice (some ⟨w.heap.size,0,none⟩) 1 1)
  (hK:∀h' w',aA w' h' (pM (L++[t]))->bh w w' h h'->wpList Tryz.prog ops Q rest (a.put o.dst (.slice h'.ao (L.length+1) h'.cap)) w') :
  wpList Tryz.prog ops Q (o :: rest) a (w.alloc (.cells (Bg t).toArray 145)):=by
 obtain⟨i0,hi,hz0,hz1,hz2⟩:=info_parts KC;have k1:ab [] w (w.alloc (.cells (Bg t).toArray 145)):=(ab.refl [] _).alloc _;have hk:(w.alloc (.cells (Bg t).toArray 145)).heap[w.heap.size]?=some (.cells (Bg t).toArray 145 (0,0)):=heap_alloc_new _ _;refine aM _ hg s x 139 hop i0 (.agg #[.int .i64 0,.int .i64 0,.int .i64 0,.string ⟨#[]⟩]) 40 h (pM L) Tryz.underlying139 hi hz0 hz1 hz2 rfl (show 0<4 by omega) hs (hown.still k1) ⟨w.heap.size,0,none⟩ 1 1 (Bg t) hx rfl ?_ ?_ Nat.one_pos (by simp only[pM];unfold maxLen;omega) (by simp only[pM];omega) ?_
 ·intro j u hj
  rw[bK,aa hk];simpa using hj
 ·intro u hu
  simp only[Bg,List.mem_cons,List.not_mem_nil,or_false]at hu
  rcases hu with rfl | rfl | rfl | rfl <;> rfl
 ·intro g5 cap5 w5 hw5 hgr5 hf5
  rw[Dz]at hw5;exact hK ⟨some ⟨g5,0,none⟩,cap5⟩ w5 hw5 ((bh.still k1).trans (bh.made hgr5 hf5))
def dW(T:List Tk):Nat->List Sm×Nat
 | 0=>([],0)
 | i+1=>if b7 (tS T i)=true then((dW T i).1++[⟨(dW T i).2,i+1,(dZ T (dW T i).2).2,(dZ T (dW T i).2).1⟩],i+1) else dW T i
def as(T:List Tk):List Sm:=(dW T T.length).1
theorem FX(T:List Tk)(i:Nat):(dW T i).2<=i:=by
 induction i with
 | zero=>exact Nat.le_refl _
 | succ i ih =>
  rw[dW]
  split
  ·exact Nat.le_refl _
  ·omega
theorem sB(T:List Tk)(i:Nat):(dW T i).1.length<=i:=by
 induction i with
 | zero=>exact Nat.le_refl _
 | succ i ih =>
  rw[dW]
  split
  ·simp;omega
  ·omega
structure Lx(w wr:World)(T:List Tk)(aoT:Option Addr)(cT:Nat)(S:List Sm)(h:Hd):Prop where
 d:wr.heap[w.heap.size]?=some (.cells #[.slice aoT T.length cT,.slice h.ao S.length h.cap] 141 (0,0))
 own:aA wr h (pM S)
 far:∀k,h.blk=some k->w.heap.size<k
 kept:ab [] w wr
theorem Lx.add{w wr w5:World}{T:List Tk}{aoT:Option Addr}{cT:Nat}{S S':List Sm}{h h5:Hd}(a:Lx w wr T aoT cT S h)(o:aA w5 h5 (pM S'))(g:bh wr w5 h h5):Lx w (w5.setCell ⟨w.heap.size,1,none⟩ (.slice h5.ao S'.length h5.cap)) T aoT cT S' h5:=by
 have hz:=ae a.d;have d5:=g.kept.get a.d (fun hq=>by have:=a.far _ (aK hq);omega)
 have far5:∀k,h5.blk=some k->w.heap.size<k:=fun k hk=>by
  rcases g.blk with e | ⟨q,e,hq⟩
  ·exact a.far k (by rw[<-e];exact hk)
  ·rw[e]at hk;cases hk;omega
 have kS:ab [w.heap.size] w5 (w5.setCell ⟨w.heap.size,1,none⟩ (.slice h5.ao S'.length h5.cap)):=(ab.refl _ _).setCell (Or.inl (by simp)) _;have k5:ab [] w w5:=⟨g.kept.os.trans a.kept.os,g.kept.tape.trans a.kept.tape,g.kept.output.trans a.kept.output,Nat.le_trans a.kept.size g.kept.size,fun k hk _=>by rw[g.kept.block k (Nat.lt_of_lt_of_le hk a.kept.size) (fun hq=>by have:=a.far _ (aK hq);omega),a.kept.block k hk (by simp)]⟩;exact⟨by rw[ah d5];rfl,o.moved (fun q hq=>kS.block q (o.lt hq) (by simp;have:=far5 q hq;omega)),far5,k5.setCell (Or.inr (by simp)) _⟩
set_option maxRecDepth 100000 in
theorem F7(T:List Tk)(aoT:Option Addr)(cT:Nat)(w:World)(hT:jU w aoT cT T)(hl:T.length<=100000)(hs:∀i,(tS T i).size<=1073741824) :
  Calls Tryz.prog 55 #[.slice aoT T.length cT] w fun e w'=>e=.returned (.pointer (some ⟨w.heap.size,0,none⟩))/\∃aoS cS,fa w' w.heap.size T aoT cT (as T) aoS cS/\ab [] w w':=by
 have S0:Hid (Lx w (w.alloc (.cells #[.slice aoT T.length cT,.slice none 0 0] 141)) T aoT cT [] ⟨none,0⟩):=⟨heap_alloc_new _ _,World.ownsRow_nil _ _ _ _,(by intro k hk;cases hk),(ab.refl [] _).alloc _⟩;have HT:=(show Hid _ from hT);have hcap:=hT.1;clear hT;go_enter Tryz.func55,Tryz.ntmps55;go_wp2
 go_loopg [4,5] T.length (fun g f i wr=>∃(k fr:Nat) (S:List Sm) (h:Hd),k<=T.length/\g=T.length-k/\f=.int .i64 fr/\i=.int .i64 k/\(fr<=k/\S.length<=k)/\Hid (dW T k=(S,fr))/\Hid (Lx w wr T aoT cT S h))
 case atStart=>exact⟨0,0,[],⟨none,0⟩,by omega,rfl,rfl,rfl,⟨by omega,by simp⟩,rfl,S0⟩
 case round =>
  obtain⟨k,fr,S,h,hk,hg,rfl,rfl,⟨hf,hSl⟩,HN,HW⟩:=hrel
  by_cases hlt:k<T.length
  ·have HTr:=(show Hid _ from jU.still HT.out HW.out.kept)
   obtain⟨gT,rfl,hgT,t0,-⟩:=HTr.out.2 k _ (fZ T k hlt);replace t0:wr.cell? ⟨gT,k*5,none⟩=some (.string (tS T k)):=t0;have hki:(k:Int)<(T.length:Int):=by omega
   have HG:Hid (dW T (k+1)=if b7 (tS T k)=true then(S++[⟨fr,k+1,(dZ T fr).2,(dZ T fr).1⟩],k+1) else(S,fr)):=by show _=_;rw[dW,HN.out]
   obtain⟨x,Hx⟩:∃x,Hid (tS T k=x):=⟨_,rfl⟩
   rw[Hx.out]at t0 HG;have HDB:Hid (fa wr w.heap.size T (some ⟨gT,0,none⟩) cT S h.ao h.cap):=⟨HW.out.d,HTr.out,HW.out.own.srcS⟩;have HKY:=(show Hid _ from CQ w.heap.size fr T (some ⟨gT,0,none⟩) cT S h.ao h.cap wr HDB.out (by omega) hl hs);obtain⟨kw,Hkw⟩:∃kw,Hid (dZ T fr=kw):=⟨_,rfl⟩
   rw[Hkw.out]at HKY HG;obtain⟨ks,kh⟩:=kw;have c1:wr.cell? ⟨w.heap.size,1,none⟩=some (.slice h.ao S.length h.cap):=by rw[aa HW.out.d];rfl
   have hz:=ae HW.out.d;have hOw:=HW.out.own;obtain⟨en,Hen⟩:∃en,Hid (b7 x=en):=⟨_,rfl⟩
   rw[Hen.out]at HG
   cases en
   ·have HM:Hid (dW T (k+1)=(S,fr)):=by show _=_;rw[HG.out,if_neg (by simp)]
    go_wp2_with (go_at_call 84;refine(rA x _).mono ?_;rintro e w9 ⟨rfl,hw9⟩;rw[hw9,Hen.out];clear hw9)
    go_roundg (T.length-(k+1))
    case measure=>omega
    case rel=>exact⟨k+1,fr,S,h,by omega,rfl,rfl,by go_num,⟨by omega,by omega⟩,HM,HW⟩
   ·have HM:Hid (dW T (k+1)=(S++[⟨fr,k+1,kh,ks⟩],k+1)):=by show _=_;rw[HG.out,if_pos rfl]
    have hc1:((k+1:Nat):Int)=(k:Int)+1:=by omega
    go_upto_region 9 with (first | (go_at_call 84;refine(rA x _).mono ?_;rintro e w9 ⟨rfl,hw9⟩;rw[hw9,Hen.out];clear hw9) | (go_at_call 85;refine Calls.mono HKY.out ?_;rintro e w9 ⟨rfl,hw9⟩;rw[hw9];clear hw9))
    go_wp2_with (at_builtin;rw[<-hc1];refine qL _ rfl (.tmp 35) (.tmp 42) rfl h S ⟨fr,k+1,kh,ks⟩ rfl hOw (by omega) rfl ?_;intro h5 w5 hw5 hg5;have HA:=(show Hid _ from HW.out.add hw5 hg5);have d5:=hg5.kept.get HW.out.d (fun hq=>by have:=HW.out.far _ (aK hq);omega);have f5:=ak d5 1;have e5:w5.cell? ⟨w.heap.size,1,none⟩=some (.slice h.ao S.length h.cap):=(by rw[aa d5];rfl);have z5:=ae d5;clear hw5 hg5 d5);rw[List.length_append]at HA
    go_roundg (T.length-(k+1))
    case measure=>omega
    case rel=>exact⟨k+1,k+1,S++[⟨fr,k+1,kh,ks⟩],h5,by omega,rfl,by go_num,by go_num,⟨by omega,by simp;omega⟩,HM,HA⟩
  ·have e:k=T.length:=by omega
   subst e;have HE:Hid (as T=S):=by show _=_;unfold as;rw[HN.out]
   go_wp2;go_ret;exact⟨rfl,h.ao,h.cap,by rw[HE.out];exact⟨HW.out.d,jU.still HT.out HW.out.kept,HW.out.own.srcS⟩,HW.out.kept⟩
def lN(i:Nat):List Sm->Nat
 | []=>0
 | s :: r=>if s.z<=i then lN i r+1 else 0
def hZ(S:List Sm)(i:Nat):Nat:=lN i S
def jh(S:List Sm)(n:Nat):Nat:=if 0<n then(au S (n-1)).z else 0
def eD(T:List Tk)(h i:Nat):List ByteArray:=((T.drop h).take (i-h)).map (·.s)
theorem xT(T:List Tk)(h k:Nat)(h1:h<=k)(h2:k<T.length):eD T h (k+1)=eD T h k++[tS T k]:=by
 unfold eD;have e:k+1-h=(k-h)+1:=by omega
 have hl:k-h<(T.drop h).length:=by rw[List.length_drop];omega
 rw[e,List.take_succ_eq_append_getElem hl,List.map_append];have e2:(T.drop h)[k-h]=T[k]:=by rw[List.getElem_drop];congr 1;omega
 rw[e2];unfold tS;rw[List.getD_eq_getElem?_getD,List.getElem?_eq_getElem h2];rfl
theorem Kq(i:Nat)(S:List Sm):lN i S<=S.length:=by
 induction S with
 | nil=>exact Nat.le_refl _
 | cons s r ih=>rw[lN];split <;> simp;omega
theorem x9(i:Nat)(S:List Sm)(j:Nat)(h:j<lN i S):∃s,S[j]?=some s/\s.z<=i:=by
 induction S generalizing j with
 | nil=>simp[lN]at h
 | cons s r ih =>
  rw[lN]at h
  split at h
  ·cases j with
   | zero=>exact⟨s,rfl,by assumption⟩
   | succ j=>exact ih j (by omega)
  ·omega
theorem Ht(S:List Sm)(i:Nat):jh S (hZ S i)<=i:=by
 unfold jh
 split
 ·next h =>
  obtain⟨s,h1,h2⟩:=x9 i S (hZ S i-1) (by unfold hZ at h ⊢;omega);unfold au;rw[List.getD_eq_getElem?_getD,h1];exact h2
 ·omega
def kq(T:List Tk)(S:List Sm)(key x:ByteArray)(n:Nat)(before:List ByteArray):Int :=
 if(x.toList == [36,46])=true then gd key before
 else if((x.toList == [36,61])&&((key.toList == [36,112]) && !(aI before ⟨#[36,61]⟩)))=true then(if before.length=0 then 15 else 0)
 else if fX x ⟨#[36]⟩=true then 8
 else if aI before ⟨#[36,61]⟩=true then 0
 else if((key.toList == [36,99])||(key.toList == [36,118]))=true then iY T S x n (key.toList == [36,99]) before
 else ik T S key x n before
def a9(T:List Tk)(S:List Sm)(i:Nat):Int :=
 if i=jh S (hZ S i) then cU T S (tS T i) (hZ S i)
 else if i<(dZ T (jh S (hZ S i))).2 then(if(aE (tS T i)||aH (tS T i))=true then 0 else 14)
 else kq T S (dZ T (jh S (hZ S i))).1 (tS T i) (hZ S i) (eD T (dZ T (jh S (hZ S i))).2 i)
set_option maxRecDepth 100000 in
theorem zl(b i:Nat)(T:List Tk)(aoT:Option Addr)(cT:Nat)(S:List Sm)(aoS:Option Addr)(cS:Nat)(w:World)(hD:fa w b T aoT cT S aoS cS)(hi:i<T.length)(ok:ji T S (hZ S i))(hf:kI T S (hZ S i))(hs:∀i,(tS T i).size<=1073741824) :
  Calls Tryz.prog 86 #[.pointer (some ⟨b,0,none⟩),.int .i64 i] w fun e w'=>e=.returned (.int .i64 (a9 T S i))/\ab [] w w':=by
 have HD:=(show Hid _ from hD);have hT:=ok.t;have hSl:=ok.s;obtain⟨c0,c1,hb⟩:=hD.cells;obtain⟨gT,rfl,hgT,t0,-⟩:=hD.t.2 i _ (fZ T i hi);replace t0:w.cell? ⟨gT,i*5,none⟩=some (.string (tS T i)):=t0;have hii:(i:Int)<(T.length:Int):=by omega
 have HFI:=(show Hid _ from Cf b (hZ S i) (tS T i) T (some ⟨gT,0,none⟩) cT S aoS cS w hD ok (hs i));have hbl:=Ht S i;have HKY:=(show Hid _ from CQ b (jh S (hZ S i)) T (some ⟨gT,0,none⟩) cT S aoS cS w hD (by omega) hT hs)
 have HR:Hid (a9 T S i=if i=jh S (hZ S i) then cU T S (tS T i) (hZ S i)
  else if i<(dZ T (jh S (hZ S i))).2 then(if(aE (tS T i)||aH (tS T i))=true then 0 else 14)
  else kq T S (dZ T (jh S (hZ S i))).1 (tS T i) (hZ S i) (eD T (dZ T (jh S (hZ S i))).2 i)):=rfl
 have hxs:=hs i;have HB:Hid (jh S (hZ S i)=if 0<hZ S i then(au S (hZ S i-1)).z else 0):=rfl;obtain⟨x,Hx⟩:∃x,Hid (tS T i=x):=⟨_,rfl⟩
 rw[Hx.out]at t0 HFI HR hxs;obtain⟨n,Hn⟩:∃n,Hid (hZ S i=n):=⟨_,rfl⟩
 have HCN:Hid (n=lN i S):=Hn.out.symm;rw[Hn.out]at HFI HKY HR HB hbl ok hf;obtain⟨bg,Hbg⟩:∃bg,Hid (jh S n=bg):=⟨_,rfl⟩
 rw[Hbg.out]at HKY HR HB hbl;obtain⟨kw,Hkw⟩:∃kw,Hid (dZ T bg=kw):=⟨_,rfl⟩
 rw[Hkw.out]at HKY HR;obtain⟨key,hd⟩:=kw;simp only at HKY HR;have hnl:n<=S.length:=ok.m;clear hD;go_enter Tryz.func86,Tryz.ntmps86;go_wp2
 go_loopg [5] S.length (fun g o wr=>∃k:Nat,k<=S.length/\g=S.length-k/\o=.int .i64 k/\Hid (k+lN i (S.drop k)=n)/\wr=w)
 case atStart=>exact⟨0,by omega,rfl,rfl,by show _=_;rw[List.drop_zero,Nat.zero_add];exact HCN.out.symm,rfl⟩
 case round =>
  obtain⟨k,hk,hg,rfl,HC,rfl⟩:=hrel
  obtain⟨tst,HT1,HT2,HT3⟩:∃tst:Bool,Hid (∀h:k<S.length,S[k].z<=i->tst=true)/\Hid (tst=true->k<S.length/\k+1+lN i (S.drop (k+1))=n)/\Hid ((∀h:k<S.length,¬S[k].z<=i)->tst=false):=by
   by_cases hks:k<S.length
   ·have hd2:=HC.out
    rw[List.drop_eq_getElem_cons hks,lN]at hd2;refine⟨decide (S[k].z<=i),fun h hz=>by simpa using hz,fun h=>⟨hks,?_⟩,fun h=>by simpa using h hks⟩;rw[if_pos (by simpa using h)]at hd2;omega
   ·exact⟨false,(fun h=>absurd h hks),(fun h=>by cases h),(fun _=>rfl)⟩
  have HT4:Hid (tst=false->k=n):=fun h=>by
   have hd2:=HC.out
   by_cases hks:k<S.length
   ·rw[List.drop_eq_getElem_cons hks,lN]at hd2
    by_cases hz:S[k].z<=i
    ·have:=HT1.out hks hz;rw[h]at this;cases this
    ·rw[if_neg hz]at hd2;omega
   ·rw[List.drop_eq_nil_of_le (by omega),lN]at hd2;omega
  go_upto_region 2 with fail
  go_cut [34] from 16 to 34 (fun s34 wd=>s34=.bool tst/\wd=wr)
  case first =>
   by_cases hks:k<S.length
   ·obtain⟨gs,rfl,hgs,-,q1,-⟩:=HD.out.s.2 k S[k] (List.getElem?_eq_getElem hks)
    have hki2:(k:Int)<(S.length:Int):=by omega
    by_cases hz:S[k].z<=i
    ·have hzi:(S[k].z:Int)<=(i:Int):=by omega
     have HV:=(show Hid _ from HT1.out hks hz);go_wp2_with fail
     go_meet
     case rel=>exact⟨by rw[HV.out],rfl⟩
    ·have hzi:¬(S[k].z:Int)<=(i:Int):=by omega
     have HV:=(show Hid _ from HT3.out (fun _=>hz));go_wp2_with fail
     go_meet
     case rel=>exact⟨by rw[HV.out],rfl⟩
   ·have hki2:¬(k:Int)<(S.length:Int):=by omega
    have HV:=(show Hid _ from HT3.out (fun h=>absurd h hks));go_wp2_with fail
    go_meet
    case rel=>exact⟨by rw[HV.out],rfl⟩
  case rest =>
   obtain⟨rfl,hwc⟩:=hcut;subst hwc
   cases tst
   ·have hkn:=HT4.out rfl
    subst hkn;go_upto_if 38 with fail
    go_cut [6] from 37 to 47 (fun s6 wd=>s6=.int .i64 bg/\wd=wc)
    case first =>
     by_cases hk0:0<k
     ·have hk1:k-1<S.length:=by omega
      obtain⟨gs,rfl,hgs,-,q1,-⟩:=HD.out.s.2 (k-1) S[k-1] (List.getElem?_eq_getElem hk1);have HBG:Hid (S[k-1].z=bg):=by show _=_;rw[HB.out,if_pos hk0,bC S (k-1) hk1]
      rw[HBG.out]at q1;have hwr:IntKind.i64.wrap ((k:Int)-1)=(k:Int)-1:=by rw[IntKind.wrap_i64];omega
      have htn:((k:Int)-1).toNat=k-1:=by omega
      have b1:(0:Int)<=(k:Int)-1:=by omega
      have b2:(k:Int)-1<(S.length:Int):=by omega
      have b3:(1:Int)<=(k:Int):=by omega
      have b4:(0:Int)<(k:Int):=by omega
      go_wp2_with fail
      go_meet
      case rel=>exact⟨rfl,rfl⟩
     ·have HBG:Hid (bg=0):=by show _=_;rw[HB.out,if_neg hk0]
      have b4:¬(0:Int)<(k:Int):=by omega
      go_wp2_with fail
      go_meet
      case rel=>exact⟨by rw[HBG.out];rfl,rfl⟩
    case rest =>
     obtain⟨rfl,hwc⟩:=hcut;subst hwc
     by_cases hib:i=bg
     ·have HE:Hid (a9 T S i=cU T S x k):=by show _=_;rw[HR.out,if_pos hib]
      subst hib;clear HKY;go_wp2_with (go_at_call 121;refine Calls.mono HFI.out ?_;rintro e w9 ⟨rfl,k9⟩);go_ret;exact⟨am HE.out.symm,k9⟩
     ·rw[if_neg hib]at HR
      have hibi:((i:Int)==(bg:Int))=false:=by simp;omega
      go_upto_region 11 with (go_at_call 85;refine Calls.mono HKY.out ?_;rintro e w9 ⟨rfl,hw9⟩;rw[hw9];clear hw9)
      by_cases hih:i<hd
      ·rw[if_pos hih]at HR
       have hihi:(i:Int)<(hd:Int):=by omega
       go_upto_region 14 with (first | (go_at_call 122;refine(fc x _).mono ?_;rintro e w9 ⟨rfl,hw9⟩;rw[hw9];clear hw9) | (go_at_call 123;refine(kl x _).mono ?_;rintro e w9 ⟨rfl,hw9⟩;rw[hw9];clear hw9))
       obtain⟨ya,Hya⟩:∃ya,Hid (aE x=ya):=⟨_,rfl⟩
       obtain⟨yu,Hyu⟩:∃yu,Hid (aH x=yu):=⟨_,rfl⟩
       rw[Hya.out,Hyu.out]at HR ⊢
       cases ya
       ·cases yu
        ·have HE:Hid (a9 T S i=14):=by show _=_;rw[HR.out];rfl
         go_wp2;go_ret;exact⟨am HE.out.symm,ab.refl _ _⟩
        ·have HE:Hid (a9 T S i=0):=by show _=_;rw[HR.out];rfl
         go_wp2;go_ret;exact⟨am HE.out.symm,ab.refl _ _⟩
       ·have HE:Hid (a9 T S i=0):=by show _=_;rw[HR.out];rfl
        go_wp2;go_ret;exact⟨am HE.out.symm,ab.refl _ _⟩
      ·rw[if_neg hih]at HR
       have hihi:¬(i:Int)<(hd:Int):=by omega
       have HX:=(show Hid _ from tP.nil wc);clear HFI HKY c1;go_wp2
       go_loopg [12,13] (i-hd) (fun g o q wr=>∃(m:Nat) (h':Hd) (O:List ByteArray),(hd<=m/\m<=i)/\g=i-m/\o=.slice h'.ao O.length h'.cap/\q=.int .i64 m/\O.length<=m/\Hid (O=eD T hd m)/\Hid (tP wc wr h' O))
       case atStart=>exact⟨hd,⟨none,0⟩,[],⟨by omega,by omega⟩,rfl,rfl,rfl,by simp,by show _=_;unfold eD;rw[Nat.sub_self];rfl,HX⟩
       case round =>
        obtain⟨m,h',O,⟨hm1,hm2⟩,hg2,rfl,rfl,hOl,HO,HW⟩:=hrel;have HDr:=(show Hid _ from fa.still HD.out HW.out.kept);obtain⟨d0,-,hbr⟩:=HDr.out.cells
        by_cases hmi:m<i
        ·have hmt:m<T.length:=by omega
         obtain⟨gT2,e5,hgr,q0,-⟩:=HDr.out.t.2 m _ (fZ T m hmt)
         cases e5
         replace q0:wr.cell? ⟨gT,m*5,none⟩=some (.string (tS T m)):=q0;have hmii:(m:Int)<(i:Int):=by omega
         have hmti:(m:Int)<(T.length:Int):=by omega
         have HNX:Hid (O++[tS T m]=eD T hd (m+1)):=by show _=_;rw[xT T hd m hm1 hmt,HO.out]
         generalize tS T m=y at *;have hOw:=HW.out.own;go_wp2_with (at_builtin;refine ng _ rfl (.tmp 86) (.tmp 95) rfl h' O y rfl hOw (by omega) rfl ?_;intro h5 w5 hw5 hg5;have HM2:=(show Hid _ from HW.out.grew hg5 hw5);clear hw5 hg5)
         go_roundg (i-(m+1))
         case measure=>omega
         case rel=>exact⟨m+1,h5,O++[y],⟨by omega,by omega⟩,rfl,by simp,by go_num,by simp;omega,HNX,HM2⟩
        ·have emi:m=i:=by omega
         subst emi;rw[<-HO.out]at HR;have hXO:=HW.out.own.srcX;have HK:=(show Hid _ from HW.out.kept);have HAM:=(show Hid _ from je O h'.ao h'.cap ⟨#[36,61]⟩ wr hXO (by omega));have HCL:=(show Hid _ from zp key O h'.ao h'.cap wr hXO (by omega));have HNA:Hid (∀con,Calls Tryz.prog 125 #[.pointer (some ⟨b,0,none⟩),.string x,.int .i64 k,.bool con,.slice h'.ao O.length h'.cap] wr fun e w'=>e=.returned (.int .i64 (iY T S x k con O))/\ab [] wr w'):=fun con=>EO b k x con O h'.ao h'.cap T (some ⟨gT,0,none⟩) cT S aoS cS wr HDr.out ok hXO (by omega)
         have HSY:=(show Hid _ from Ck b k key x O h'.ao h'.cap T (some ⟨gT,0,none⟩) cT S aoS cS wr HDr.out ok hf hXO (by omega));unfold kq at HR;obtain⟨pf,Hpf⟩:∃pf,Hid (aI O ⟨#[36,61]⟩=pf):=⟨_,rfl⟩
         obtain⟨dl,Hdl⟩:∃dl,Hid (fX x ⟨#[36]⟩=dl):=⟨_,rfl⟩
         rw[Hpf.out]at HAM HR;rw[Hdl.out]at HR
         go_upto_region 24 with (first | (go_at_call 93;refine Calls.mono HAM.out ?_;rintro e w9 ⟨rfl,hw9⟩;rw[hw9];clear hw9) | (go_at_call 120;refine(eL x _ _ (by omega) (by show 1<=_;omega)).mono ?_;rintro e w9 ⟨rfl,hw9⟩;rw[hw9];clear hw9))
         rw[Hdl.out];clear HAM hXO HX d0 HW HDr;generalize O.length=ol at *
         cases h1:(x.toList == [36,46])
         ·rw[if_neg (by rw[h1];simp)]at HR
          obtain⟨tb,Htb⟩:∃tb,Hid (((x.toList == [36,61])&&((key.toList == [36,112]) && !pf))=tb):=⟨_,rfl⟩
          rw[Htb.out]at HR
          go_upto_region 26 with fail
          go_cut [107] from 108 to 117 (fun s107 wd=>s107=.bool tb/\wd=wr)
          case first =>
           cases h2:(x.toList == [36,61])
           ·go_wp2_with fail
            go_meet
            case rel=>exact⟨by rw[<-Htb.out,h2];rfl,rfl⟩
           ·cases h3:(key.toList == [36,112])
            ·go_wp2_with fail
             go_meet
             case rel=>exact⟨by rw[<-Htb.out,h2,h3];rfl,rfl⟩
            ·go_wp2_with fail
             go_meet
             case rel=>exact⟨by rw[<-Htb.out,h2,h3];rfl,rfl⟩
          case rest =>
           obtain⟨rfl,hwc⟩:=hcut;subst hwc
           cases tb
           ·cases dl
            ·cases pf
             ·cases h4:(key.toList == [36,99])
              ·cases h5:(key.toList == [36,118])
               ·have HE:Hid (a9 T S m=ik T S key x k O):=by show _=_;rw[HR.out,h4,h5];rfl
                go_wp2_with (go_at_call 126;refine Calls.mono HSY.out ?_;rintro e w9 ⟨rfl,k9⟩);go_ret;exact⟨am HE.out.symm,HK.out.trans k9⟩
               ·have HE:Hid (a9 T S m=iY T S x k false O):=by show _=_;rw[HR.out,h4,h5];rfl
                have HN2:=(show Hid _ from HNA.out false);go_wp2_with (go_at_call 125;refine Calls.mono HN2.out ?_;rintro e w9 ⟨rfl,k9⟩);go_ret;exact⟨am HE.out.symm,HK.out.trans k9⟩
              ·have HE:Hid (a9 T S m=iY T S x k true O):=by show _=_;rw[HR.out,h4];rfl
               have HN2:=(show Hid _ from HNA.out true);go_wp2_with (go_at_call 125;refine Calls.mono HN2.out ?_;rintro e w9 ⟨rfl,k9⟩);go_ret;exact⟨am HE.out.symm,HK.out.trans k9⟩
             ·have HE:Hid (a9 T S m=0):=by show _=_;rw[HR.out];rfl
              go_wp2;go_ret;exact⟨am HE.out.symm,HK.out⟩
            ·have HE:Hid (a9 T S m=8):=by show _=_;rw[HR.out];rfl
             go_wp2;go_ret;exact⟨am HE.out.symm,HK.out⟩
           ·rw[if_pos rfl]at HR
            by_cases ho:ol=0
            ·have HE:Hid (a9 T S m=15):=by show _=_;rw[HR.out,if_pos ho]
             have hoi:((ol:Int)==0)=true:=by simpa using ho
             go_wp2;go_ret;exact⟨am HE.out.symm,HK.out⟩
            ·have HE:Hid (a9 T S m=0):=by show _=_;rw[HR.out,if_neg ho]
             have hoi:((ol:Int)==0)=false:=by simpa using ho
             go_wp2;go_ret;exact⟨am HE.out.symm,HK.out⟩
         ·have HE:Hid (a9 T S m=gd key O):=by show _=_;rw[HR.out,if_pos h1]
          go_wp2_with (go_at_call 124;refine Calls.mono HCL.out ?_;rintro e w9 ⟨rfl,hw9⟩;rw[hw9];clear hw9);go_ret;exact⟨am HE.out.symm,HK.out⟩
   ·obtain⟨hks,hm⟩:=HT2.out rfl
    have HM:=(show Hid _ from hm);clear hm;go_wp2
    go_roundg (S.length-(k+1))
    case measure=>omega
    case rel=>exact⟨k+1,by omega,rfl,by go_num,HM,rfl⟩
def K0(T:List Tk)(S:List Sm)(i:Nat):Bool:=!(a9 T S i==0)
def vP(T:List Tk)(S:List Sm):Tk:=match (List.range T.length).find? (K0 T S) with
 | some i=>⟨⟨#[]⟩,a9 T S i,(T.getD i ic).file,(T.getD i ic).line,(T.getD i ic).col⟩
 | none=>ic
theorem Ga{T:List Tk}{S:List Sm}{k:Nat}(hk:k<T.length)(h:(a9 T S k==0)=false)(ha:∀j,j<k->a9 T S j=0):vP T S=⟨⟨#[]⟩,a9 T S k,(T.getD k ic).file,(T.getD k ic).line,(T.getD k ic).col⟩:=by
 have e:(List.range T.length).find? (K0 T S)=some k:=by
  rw[List.find?_range_eq_some];exact⟨by unfold K0;rw[h];rfl,List.mem_range.2 hk,fun j hj=>by unfold K0;rw[ha j hj];rfl⟩
 unfold vP;rw[e]
theorem J4{T:List Tk}{S:List Sm}(ha:∀j,j<T.length->a9 T S j=0):vP T S=ic:=by
 have e:(List.range T.length).find? (K0 T S)=none:=by
  rw[List.find?_eq_none];intro j hj;unfold K0;rw[ha j (List.mem_range.1 hj)];simp
 unfold vP;rw[e]
def Lp(T:List Tk)(S:List Sm):Prop:=∀i,i<T.length->(∀j,j<i->a9 T S j=0)->ji T S (hZ S i)/\kI T S (hZ S i)
set_option maxRecDepth 100000 in
theorem uJ(b:Nat)(T:List Tk)(aoT:Option Addr)(cT:Nat)(S:List Sm)(aoS:Option Addr)(cS:Nat)(w:World)(hD:fa w b T aoT cT S aoS cS)(hT:T.length<=100000)(hO:Lp T S)(hs:∀i,(tS T i).size<=1073741824) :
  Calls Tryz.prog 56 #[.pointer (some ⟨b,0,none⟩)] w fun e w'=>e=.returned (.agg #[.int .i64 (vP T S).rule,.string (vP T S).file,.int .i64 (vP T S).line,.int .i64 (vP T S).col])/\ab [] w w':=by
 have HD:=(show Hid _ from hD);obtain⟨W,HW⟩:∃W,Hid (w.alloc (.cells #[.int .i64 0,.string ⟨#[]⟩,.int .i64 0,.int .i64 0] 87)=W):=⟨_,rfl⟩
 have BF:W.heap[w.heap.size]?=some (.cells #[.int .i64 0,.string ⟨#[]⟩,.int .i64 0,.int .i64 0] 87 (0,0)):=by rw[<-HW.out];exact heap_alloc_new _ _
 have HKW:Hid (ab [] w W):=by show ab [] w W;rw[<-HW.out];exact(ab.refl [] _).alloc _
 clear hD;go_enter Tryz.func56,Tryz.ntmps56
 go_upto_region 1 with fail
 rw[HW.out];go_wp2
 go_loopg [3] T.length (fun g i wr=>∃k:Nat,k<=T.length/\g=T.length-k/\i=.int .i64 k/\Hid (∀j,j<k->a9 T S j=0)/\Hid (ab [] W wr))
 case atStart=>exact⟨0,by omega,rfl,rfl,(fun j hj=>by omega),ab.refl _ _⟩
 case round =>
  obtain⟨k,hk,hg,rfl,HN,HK⟩:=hrel;have HKr:=(show Hid _ from HKW.out.trans HK.out);have HDr:=(show Hid _ from fa.still HD.out HKr.out);obtain⟨c0,-,hb⟩:=HDr.out.cells;have BR:=HK.out.get BF (by simp)
  by_cases hlt:k<T.length
  ·obtain⟨ok,hf⟩:=hO k hlt HN.out
   have hki:(k:Int)<(T.length:Int):=by omega
   have HBK:=(show Hid _ from zl b k T aoT cT S aoS cS wr HDr.out hlt ok hf hs);obtain⟨r,Hr⟩:∃r,Hid (a9 T S k=r):=⟨_,rfl⟩
   rw[Hr.out]at HBK;clear ok hf
   cases hr:(r==0)
   ·have HE:Hid (vP T S=⟨⟨#[]⟩,r,(T.getD k ic).file,(T.getD k ic).line,(T.getD k ic).col⟩):=by show _=_;rw[Ga hlt (by rw[Hr.out];exact hr) HN.out,Hr.out]
    go_upto_region 5 with (go_at_call 86;refine Calls.mono HBK.out ?_;rintro e w2 ⟨rfl,k2⟩)
    have HK2:=(show Hid _ from HKr.out.trans k2);have HD2:=(show Hid _ from fa.still HD.out HK2.out);have B2:=k2.get BR (by simp);clear c0 hb;obtain⟨c0,-,hb⟩:=HD2.out.cells;obtain⟨gT,rfl,hgT,-,-,t2,t3,t4⟩:=HD2.out.t.2 k _ (fZ T k hlt);generalize T.getD k ic=t at *;obtain⟨ts,tr,tf,tl,tc⟩:=t;simp only at t2 t3 t4 HE;have f0:=ak B2 0;have f1:=ak B2 1;have f2:=ak B2 2;have f3:=ak B2 3;have g0:w2.cell? ⟨w.heap.size,0,none⟩=some (.int .i64 0):=by rw[aa B2];rfl
    have g1:w2.cell? ⟨w.heap.size,1,none⟩=some (.string ⟨#[]⟩):=by rw[aa B2];rfl
    have g2:w2.cell? ⟨w.heap.size,2,none⟩=some (.int .i64 0):=by rw[aa B2];rfl
    have g3:w2.cell? ⟨w.heap.size,3,none⟩=some (.int .i64 0):=by rw[aa B2];rfl
    have y2:=ae B2;go_wp2;obtain⟨x0,x1,x2,x3⟩:=qq B2 (.int .i64 r) (.string tf) (.int .i64 tl) (.int .i64 tc);exact bodyPost_ret (v:=.agg #[.int .i64 r,.string tf,.int .i64 tl,.int .i64 tc]) (by simp[results,Tryz.results56,go_sem,x0,x1,x2,x3]) rfl ⟨by rw[HE.out],(((HK2.out.setCell (Or.inr (by simp)) _).setCell (Or.inr (by simp)) _).setCell (Or.inr (by simp)) _).setCell (Or.inr (by simp)) _⟩
   ·have hr0:r=0:=by simpa using hr
    subst hr0
    have HM:Hid (∀j,j<k+1->a9 T S j=0):=fun j hj=>by
     by_cases e:j=k
     ·rw[e];exact Hr.out
     ·exact HN.out j (by omega)
    go_wp2_with (go_at_call 86;refine Calls.mono HBK.out ?_;rintro e w2 ⟨rfl,k2⟩;have HK3:=(show Hid _ from HK.out.trans k2))
    go_roundg (T.length-(k+1))
    case measure=>omega
    case rel=>exact⟨k+1,by omega,rfl,by go_num,HM,HK3⟩
  ·have HE:Hid (vP T S=ic):=J4 (fun j hj=>HN.out j (by omega))
   have f0:=ak BR 0;have f1:=ak BR 1;have f2:=ak BR 2;have f3:=ak BR 3;have g0:wr.cell? ⟨w.heap.size,0,none⟩=some (.int .i64 0):=by rw[aa BR];rfl
   have g1:wr.cell? ⟨w.heap.size,1,none⟩=some (.string ⟨#[]⟩):=by rw[aa BR];rfl
   have g2:wr.cell? ⟨w.heap.size,2,none⟩=some (.int .i64 0):=by rw[aa BR];rfl
   have g3:wr.cell? ⟨w.heap.size,3,none⟩=some (.int .i64 0):=by rw[aa BR];rfl
   have y2:=ae BR;have hki:¬(k:Int)<(T.length:Int):=by omega
   go_wp2;obtain⟨x0,x1,x2,x3⟩:=qq BR (.int .i64 0) (.string ⟨#[]⟩) (.int .i64 0) (.int .i64 0);exact bodyPost_ret (v:=.agg #[.int .i64 0,.string ⟨#[]⟩,.int .i64 0,.int .i64 0]) (by simp[results,Tryz.results56,go_sem,x0,x1,x2,x3]) rfl ⟨by rw[HE.out];rfl,(((HKr.out.setCell (Or.inr (by simp)) _).setCell (Or.inr (by simp)) _).setCell (Or.inr (by simp)) _).setCell (Or.inr (by simp)) _⟩
end Go.Proofs.YtpddjjabfbfifaaGreat
