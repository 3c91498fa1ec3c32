import Derived.Deep.RegionHeld3
import Derived.Deep.RegionLaw
import Derived.Deep.CutRange
import Derived.Test.YtpddjjabfbfifaaGreatG25
namespace Go.Proofs.YtpddjjabfbfifaaGreat
open Go.RowKit
set_option maxHeartbeats 40000000
structure Tk where
 s:ByteArray
 rule:Int
 file:ByteArray
 line:Int
 col:Int
def xR(t:Tk):List Value:=[.string t.s,.int .i64 t.rule,.string t.file,.int .i64 t.line,.int .i64 t.col]
def KZ(L:List Tk):List Value:=L.flatMap xR
def ge(L:List Tk):dK:=⟨138,5,L.length,KZ L⟩
theorem KE(L:List Tk)(j:Nat)(t:Tk)(h:L[j]?=some t)(c:Nat)(hc:c<5):(KZ L)[j*5+c]?=(xR t)[c]?:=by
 induction L generalizing j with
 | nil=>cases h
 | cons a L ih =>
  have e:KZ (a :: L)=xR a++KZ L:=rfl
  cases j with
  | zero =>
   simp at h;subst h;rw[e,List.getElem?_append_left (by simp[xR];omega)];simp
  | succ j =>
   rw[e,List.getElem?_append_right (by simp[xR];omega),show(j+1)*5+c-(xR a).length=j*5+c by simp[xR];omega];exact ih j (by simpa using h)
theorem v8(L:List Tk)(t:Tk):(⟨(ge L).e,(ge L).size,(ge L).n+1,(ge L).xs++xR t⟩:dK)=ge (L++[t]):=by
 simp[ge,KZ]
def cJ(d:ByteArray):Nat->Nat
 | 0=>0
 | i+1=>if cC (aF d i)=true then i+1 else cJ d i
def kL(nm d:ByteArray)(s:ByteArray)(r:Int)(k:Nat):Tk:=⟨s,r,nm,aL d k,aW d k⟩
def g7(nm d:ByteArray)(a z:Nat)(L:List Tk):List Tk:=if a=z then L else L++[kL nm d (d.extract a z) 0 a]
def h9(nm d:ByteArray):Nat->List Tk
 | 0=>[]
 | i+1=>if cC (aF d i)=true then g7 nm d (cJ d i) i (h9 nm d i) else h9 nm d i
def oA(n:Int):Bool:=!plainB n && !blankB n
def iE(d:ByteArray):Option Nat:=(List.range d.size).find? (fun i=>oA (aF d i))
def fR(nm d:ByteArray):List Tk:=match iE d with
 | some i=>h9 nm d i++[kL nm d ⟨#[]⟩ 1 i]
 | none=>g7 nm d (cJ d d.size) d.size (h9 nm d d.size)++[kL nm d ⟨#[]⟩ 0 d.size]
theorem mu(d:ByteArray)(i:Nat):cJ d i<=i:=by
 induction i with
 | zero=>exact Nat.le_refl _
 | succ i ih=>rw[cJ];split <;> omega
theorem rj(nm d:ByteArray)(a z:Nat)(L:List Tk):(g7 nm d a z L).length<=L.length+1:=by
 unfold g7;split <;> simp
theorem t9(nm d:ByteArray)(i:Nat):(h9 nm d i).length<=i:=by
 induction i with
 | zero=>exact Nat.le_refl _
 | succ i ih =>
  rw[h9]
  split
  ·have:=rj nm d (cJ d i) i (h9 nm d i);omega
  ·omega
theorem vZ(nm d:ByteArray):(fR nm d).length<=d.size+2:=by
 unfold fR
 split
 ·next i h =>
  have:=List.mem_range.1 (List.mem_of_find?_eq_some h);have:=t9 nm d i;simp;omega
 ·have:=rj nm d (cJ d d.size) d.size (h9 nm d d.size)
  have:=t9 nm d d.size;simp;omega
def pn(s u:ByteArray)(i:Nat):Bool:=((s.extract i (i+u.size)).toList==u.toList)
def fX(s u:ByteArray):Bool:=(List.range (s.size+1)).any (fun i=>decide (i+u.size<=s.size)&&pn s u i)
def Ab(t:ByteArray)(l:List UInt8):Bool:=(t.toList==l)
def bJ:Bool->List Tk->List Tk
 | _,[]=>[]
 | false,t :: r=>if Ab t.s [36,40]=true then bJ true r else t :: bJ false r
 | true,t :: r =>
  if(t.rule==0)=false then t :: bJ true r
  else if Ab t.s [36,41]=true then bJ false r
  else if Ab t.s []=true then⟨⟨#[]⟩,3,t.file,t.line,t.col⟩ :: bJ true r
  else if(fX t.s ⟨#[36,40]⟩||fX t.s ⟨#[36,41]⟩)=true then [⟨⟨#[]⟩,2,t.file,t.line,t.col⟩]
  else bJ true r
theorem G0(b:Bool)(L:List Tk):(bJ b L).length<=L.length:=by
 induction L generalizing b with
 | nil=>cases b <;> simp[bJ]
 | cons t L ih =>
  have h1:=ih true;have h2:=ih false
  cases b
  ·rw[bJ];split <;> simp <;> omega
  ·rw[bJ]
   repeat' split
   all_goals (simp;try omega)
theorem pB(n:Int)(w:World) :
  Calls Tryz.prog 164 #[.int .u8 n] w fun e w'=>e=.returned (.bool (cC n))/\w'=w:=by
 go_enter Tryz.func164,Tryz.ntmps164;go_wp2
 all_goals go_ret
 all_goals (refine⟨?_,rfl⟩;first | (simp[cC, *];done) | (simp[cC, *,Bool.or_assoc];rw[Bool.or_comm (n==13)]))
theorem jN(n:Int)(w:World) :
  Calls Tryz.prog 78 #[.int .u8 n] w fun e w'=>e=.returned (.bool (eN n))/\w'=w:=by
 go_enter Tryz.func78,Tryz.ntmps78;go_wp2
 all_goals go_ret
 all_goals (refine⟨?_,rfl⟩;first | (simp[eN, *];done) | (simp[eN];omega) | (rename_i h;simp only[eN];rw[show decide (33<=n)=true by simp;omega];simp;omega))
theorem eL(s u:ByteArray)(w:World)(hs:s.size<=4294967296)(hu:u.size<=4294967296) :
  Calls Tryz.prog 120 #[.string s,.string u] w fun e w'=>e=.returned (.bool (fX s u))/\w'=w:=by
 go_enter Tryz.func120,Tryz.ntmps120;go_wp2
 go_loopg [5] (s.size+1) (fun g i wr=>∃k:Nat,k<=s.size+1/\g=s.size+1-k/\i=.int .i64 k/\Hid (∀i,i<k->i+u.size<=s.size->pn s u i=false)/\wr=w)
 case atStart=>exact⟨0,by omega,by omega,rfl,fun i h=>by omega,rfl⟩
 case round =>
  obtain⟨k,hk,hg,rfl,hall,rfl⟩:=hrel
  by_cases hlt:k+u.size<=s.size
  ·have hi1:(k:Int)<=(k:Int)+(u.size:Int):=by omega
   have hi2:(k:Int)+(u.size:Int)<=(s.size:Int):=by omega
   have htn:((k:Int)+(u.size:Int)).toNat=k+u.size:=by omega
   cases hb:((s.extract k (k+u.size)).toList==u.toList)
   ·go_wp2
    go_roundg (s.size+1-(k+1))
    case measure=>omega
    case rel =>
     refine⟨k+1,by omega,rfl,by go_num,?_,rfl⟩;intro i hi h2
     by_cases e:i=k
     ·subst e;exact hb
     ·exact hall.out i (by omega) h2
   ·have HY:Hid (fX s u=true):=lI k (by omega) (by simp[hlt,pn,hb])
    go_wp2;go_ret;exact⟨aB HY.out.symm,rfl⟩
  ·have HY:Hid (fX s u=false):=tT (fun i hi=>by
    by_cases h2:i+u.size<=s.size
    ·simp[hall.out i (by omega) h2]
    ·simp[h2])
   go_wp2;go_ret;exact⟨aB HY.out.symm,rfl⟩
structure se(w wr:World)(nm d:ByteArray)(j:Nat):Prop where
 f:wr.heap[w.heap.size]?=some (.cells #[.string nm,.string d] 68 (0,0))
 r:wr.heap[w.heap.size+1]?=some (.cells #[.string ⟨#[]⟩,.int .i64 0,.int .i64 0] 36 (0,0))
 p:wr.heap[w.heap.size+2]?=some (.cells #[.string nm,.int .i64 (aL d j),.int .i64 (aW d j)] 36 (0,0))
 kept:ab [] w wr
theorem se.start(w:World)(nm d:ByteArray):se w (((w.alloc (.cells #[.string nm,.string d] 68)).alloc (.cells #[.string ⟨#[]⟩,.int .i64 0,.int .i64 0] 36)).alloc (.cells #[.string nm,.int .i64 1,.int .i64 1] 36)) nm d 0:=by
 have k1:=(ab.refl [] w).alloc (.cells #[.string nm,.string d] 68);have k2:=(ab.refl [] (w.alloc (.cells #[.string nm,.string d] 68))).alloc (.cells #[.string ⟨#[]⟩,.int .i64 0,.int .i64 0] 36);have k3:=(ab.refl [] ((w.alloc (.cells #[.string nm,.string d] 68)).alloc (.cells #[.string ⟨#[]⟩,.int .i64 0,.int .i64 0] 36))).alloc (.cells #[.string nm,.int .i64 1,.int .i64 1] 36);have h1:(w.alloc (.cells #[.string nm,.string d] 68)).heap[w.heap.size]?=some (.cells #[.string nm,.string d] 68 (0,0)):=heap_alloc_new _ _;have h2:=heap_alloc_new (w.alloc (.cells #[.string nm,.string d] 68)) (.cells #[.string ⟨#[]⟩,.int .i64 0,.int .i64 0] 36);have h3:=heap_alloc_new ((w.alloc (.cells #[.string nm,.string d] 68)).alloc (.cells #[.string ⟨#[]⟩,.int .i64 0,.int .i64 0] 36)) (.cells #[.string nm,.int .i64 1,.int .i64 1] 36);refine⟨k3.get (k2.get h1 (by simp)) (by simp),k3.get (by simpa using h2) (by simp),by simpa [aL,aW] using h3,(k1.trans k2).trans k3⟩
theorem se.other{w wr:World}{nm d:ByteArray}{j:Nat}(h:se w wr nm d j)(hb:(aF d j==10)=false):se w (wr.setCell ⟨w.heap.size+1+1,2,none⟩ (.int .i64 (aW d j+1))) nm d (j+1):=by
 have k:ab [w.heap.size+1+1] wr (wr.setCell ⟨w.heap.size+1+1,2,none⟩ (.int .i64 (aW d j+1))):=(ab.refl _ _).setCell (Or.inl (by simp)) _;refine⟨k.get h.f (by simp;omega),k.get h.r (by simp),?_,h.kept.setCell (Or.inr (by show _<=w.heap.size+1+1;omega)) _⟩;rw[ah h.p];simp[aL,aW,hb]
theorem se.lf{w wr:World}{nm d:ByteArray}{j:Nat}(h:se w wr nm d j)(hb:(aF d j==10)=true):se w (((wr.setCell ⟨w.heap.size+1+1,2,none⟩ (.int .i64 (aW d j+1))).setCell ⟨w.heap.size+1+1,1,none⟩ (.int .i64 (aL d j+1))).setCell ⟨w.heap.size+1+1,2,none⟩ (.int .i64 1)) nm d (j+1):=by
 have k:ab [w.heap.size+1+1] wr (((wr.setCell ⟨w.heap.size+1+1,2,none⟩ (.int .i64 (aW d j+1))).setCell ⟨w.heap.size+1+1,1,none⟩ (.int .i64 (aL d j+1))).setCell ⟨w.heap.size+1+1,2,none⟩ (.int .i64 1)):=(((ab.refl _ _).setCell (Or.inl (by simp)) _).setCell (Or.inl (by simp)) _).setCell (Or.inl (by simp)) _;refine⟨k.get h.f (by simp;omega),k.get h.r (by simp),?_,((h.kept.setCell (Or.inr (by show _<=w.heap.size+1+1;omega)) _).setCell (Or.inr (by show _<=w.heap.size+1+1;omega)) _).setCell (Or.inr (by show _<=w.heap.size+1+1;omega)) _⟩;rw[ah (ah (ah h.p 2 _) 1 _) 2 _];simp[aL,aW,hb]
theorem pC(nm d:ByteArray)(k:Nat)(w:World)(hk:k<=d.size)(hd:d.size<=1073741824) :
  Calls Tryz.prog 165 #[.agg #[.string nm,.string d],.int .i64 k] w fun e w'=>e=.returned (.agg #[.string nm,.int .i64 (aL d k),.int .i64 (aW d k)])/\ab [] w w':=by
 go_enter Tryz.func165,Tryz.ntmps165;go_wp2
 go_loopg [6] k (fun g i wr=>∃j:Nat,j<=k/\g=k-j/\i=.int .i64 j/\Hid (se w wr nm d j))
 case atStart=>exact⟨0,by omega,rfl,rfl,se.start w nm d⟩
 case round =>
  obtain⟨j,hj,hg,rfl,HP⟩:=hrel;have B0:=HP.out.f;have B1:=HP.out.r;have B2:=HP.out.p;have z2:=ae B2;have c0:wr.cell? ⟨w.heap.size,1,none⟩=some (.string d):=by rw[aa B0];rfl
  have e0:wr.cell? ⟨w.heap.size+2,0,none⟩=some (.string nm):=by rw[aa B2];rfl
  have e1:wr.cell? ⟨w.heap.size+2,1,none⟩=some (.int .i64 (aL d j)):=by rw[aa B2];rfl
  have e2:wr.cell? ⟨w.heap.size+2,2,none⟩=some (.int .i64 (aW d j)):=by rw[aa B2];rfl
  have f1:=ak B2 1;have f2:=ak B2 2;have g0:=ak B1 0;have g1:=ak B1 1;have g2:=ak B1 2;have r0:wr.cell? ⟨w.heap.size+1,0,none⟩=some (.string ⟨#[]⟩):=by rw[aa B1];rfl
  have r1:wr.cell? ⟨w.heap.size+1,1,none⟩=some (.int .i64 0):=by rw[aa B1];rfl
  have r2:wr.cell? ⟨w.heap.size+1,2,none⟩=some (.int .i64 0):=by rw[aa B1];rfl
  have bl:=xc d j;have bc:=xL d j
  by_cases hlt:j<k
  ·have hjd:j<d.size:=by omega
   cases hb:((d[j].toNat:Int)==10)
   ·have HN:Hid (se w _ nm d (j+1)):=HP.out.other (by rw[bI d j hjd];exact hb)
    go_wp2
    go_roundg (k-(j+1))
    case measure=>omega
    case rel=>exact⟨j+1,by omega,rfl,by go_num,HN.out⟩
   ·have HN:Hid (se w _ nm d (j+1)):=HP.out.lf (by rw[bI d j hjd];exact hb)
    go_wp2
    go_roundg (k-(j+1))
    case measure=>omega
    case rel=>exact⟨j+1,by omega,rfl,by go_num,HN.out⟩
  ·have e:j=k:=by omega
   subst e;have HK:=(show Hid _ from HP.out.kept);go_wp2;have b0:=ah B1 0 (.string nm);have b1:=ah b0 1 (.int .i64 (aL d j));have b2:=ah b1 2 (.int .i64 (aW d j));have x0:(wr.setCell ⟨w.heap.size+1,0,none⟩ (.string nm)).cell? ⟨w.heap.size+1,0,none⟩=some (.string nm):=by rw[aa b0];rfl
   have x1:((wr.setCell ⟨w.heap.size+1,0,none⟩ (.string nm)).setCell ⟨w.heap.size+1,1,none⟩ (.int .i64 (aL d j))).cell? ⟨w.heap.size+1,1,none⟩=some (.int .i64 (aL d j)):=by rw[aa b1];rfl
   have x2:(((wr.setCell ⟨w.heap.size+1,0,none⟩ (.string nm)).setCell ⟨w.heap.size+1,1,none⟩ (.int .i64 (aL d j))).setCell ⟨w.heap.size+1,2,none⟩ (.int .i64 (aW d j))).cell? ⟨w.heap.size+1,2,none⟩=some (.int .i64 (aW d j)):=by rw[aa b2];rfl
   exact bodyPost_ret (v:=.agg #[.string nm,.int .i64 (aL d j),.int .i64 (aW d j)]) (by simp[results,Tryz.results165,go_sem,x0,x1,x2]) rfl ⟨rfl,((HK.out.setCell (Or.inr (by simp)) _).setCell (Or.inr (by simp)) _).setCell (Or.inr (by simp)) _⟩
structure bh(w w':World)(h h':Hd):Prop where
 kept:ab h.blk.toList w w'
 blk:h'.blk=h.blk∨∃g,h'.blk=some g/\w.heap.size<=g
theorem aK{h:Hd}{k:Nat}(hk:k∈h.blk.toList):h.blk=some k:=by
 cases e:h.blk with
 | none=>rw[e]at hk;simp at hk
 | some y=>rw[e]at hk;simp at hk;rw[hk]
theorem bh.still{w w':World}{h:Hd}(k:ab [] w w'):bh w w' h h:=⟨k.mono (by simp),Or.inl rfl⟩
theorem bh.trans{w w1 w2:World}{h h1 h2:Hd}(a:bh w w1 h h1)(b:bh w1 w2 h1 h2):bh w w2 h h2:=by
 refine⟨⟨b.kept.os.trans a.kept.os,b.kept.tape.trans a.kept.tape,b.kept.output.trans a.kept.output,Nat.le_trans a.kept.size b.kept.size,fun k hk hn=>?_⟩,?_⟩
 ·rw[b.kept.block k (Nat.lt_of_lt_of_le hk a.kept.size) (fun hq=>?_),a.kept.block k hk hn]
  have e:=aK hq
  rcases a.blk with e2 | ⟨g,e2,hg⟩
  ·exact hn (by rw[<-e2,e];simp)
  ·rw[e2]at e;cases e;omega
 ·rcases b.blk with e | ⟨g,e,hg⟩
  ·rcases a.blk with e2 | ⟨g,e2,hg⟩
   ·exact Or.inl (e.trans e2)
   ·exact Or.inr ⟨g,e.trans e2,hg⟩
  ·exact Or.inr ⟨g,e,Nat.le_trans a.kept.size hg⟩
theorem bh.made{w w':World}{h:Hd}{g c:Nat}(hg:w.grownBy w' h.blk)(hf:h.blk=some g∨w.heap.size<=g):bh w w' h ⟨some ⟨g,0,none⟩,c⟩ :=
 ⟨⟨hg.os,hg.tape,hg.output,hg.size,fun k hk hn=>hg.block k hk (fun e=>hn (by rw[<-e];simp))⟩,by
  rcases hf with e | e
  ·exact Or.inl e.symm
  ·exact Or.inr ⟨g,rfl,e⟩⟩
theorem aA.still{w w':World}{h:Hd}{r:dK}(o:aA w h r)(k:ab [] w w'):aA w' h r:=o.moved (fun q hq=>k.block q (o.lt hq) (by simp))
theorem BB:(Tryz.prog.info? 138).map (fun i=>(i.zero,i.size,i.bytes))=some (some (.agg #[.string ⟨#[]⟩,.int .i64 0,.string ⟨#[]⟩,.int .i64 0,.int .i64 0]),5,56):=by kernel_rfl
theorem Iu(w:World)(t:Tk):∀j u,(xR t)[j]?=some u->(w.alloc (.cells (xR t).toArray 138)).cell? ((⟨w.heap.size,0,none⟩:Addr).add j)=some u:=by
 intro j u hj;rw[bK];have hk:(w.alloc (.cells (xR t).toArray 138)).heap[w.heap.size]?=some (.cells (xR t).toArray 138 (0,0)):=heap_alloc_new _ _;rw[aa hk];simpa using hj
theorem FI(t:Tk):∀u∈xR t,u.oneCell'=true:=by
 intro u hu;simp only[xR,List.mem_cons,List.not_mem_nil,or_false]at hu
 rcases hu with rfl | rfl | rfl | rfl | rfl <;> rfl
set_option maxRecDepth 100000 in
theorem vx(nm d:ByteArray)(a z:Nat)(L:List Tk)(h:Hd)(w:World)(haz:a<=z)(hz:z<=d.size)(hd:d.size<=1073741824)(hL:L.length<=100000)(hO:aA w h (ge L)) :
  Calls Tryz.prog 166 #[.agg #[.string nm,.string d],.int .i64 a,.int .i64 z,.slice h.ao L.length h.cap] w fun e w'=>∃h',e=.returned (.slice h'.ao (g7 nm d a z L).length h'.cap)/\aA w' h' (ge (g7 nm d a z L))/\bh w w' h h':=by
 have k0:ab [] w (w.alloc (.cells #[.string nm,.string d] 68)):=(ab.refl [] _).alloc _;have B0:(w.alloc (.cells #[.string nm,.string d] 68)).heap[w.heap.size]?=some (.cells #[.string nm,.string d] 68 (0,0)):=heap_alloc_new _ _
 by_cases e:a=z
 ·subst e
  have HW:Hid (g7 nm d a a L=L):=by show _=_;unfold g7;rw[if_pos rfl]
  have HO:=(show Hid _ from hO.still k0);rw[HW.out];go_enter Tryz.func166,Tryz.ntmps166;go_wp2;go_ret;exact⟨h,rfl,HO.out,bh.still k0⟩
 ·have HW:Hid (g7 nm d a z L=L++[kL nm d (d.extract a z) 0 a]):=by show _=_;unfold g7;rw[if_neg e]
  have hei:¬((a:Int)=(z:Int)):=by omega
  obtain⟨i0,hi,hz0,hz1,hz2⟩:=info_parts BB;have hb1:(a:Int)<=(z:Int):=by omega
  have hb2:(z:Int)<=(d.size:Int):=by omega
  go_enter Tryz.func166,Tryz.ntmps166
  go_upto_region 4 with (go_at_call 165;refine(pC nm d a _ (by omega) hd).mono ?_;rintro e w1 ⟨rfl,k1⟩)
  obtain⟨W,HWW⟩:∃W,Hid (w1.alloc (.cells #[.string nm,.int .i64 (aL d a),.int .i64 (aW d a)] 36)=W):=⟨_,rfl⟩
  have kW:ab [] w1 W:=by rw[<-HWW.out];exact(ab.refl [] _).alloc _
  have BP:W.heap[w1.heap.size]?=some (.cells #[.string nm,.int .i64 (aL d a),.int .i64 (aW d a)] 36 (0,0)):=by rw[<-HWW.out];exact heap_alloc_new _ _
  have K:=(k0.trans k1).trans kW;have BF:=kW.get (k1.get B0 (by simp)) (by simp);have c1:W.cell? ⟨w.heap.size,1,none⟩=some (.string d):=by rw[aa BF];rfl
  have p0:W.cell? ⟨w1.heap.size,0,none⟩=some (.string nm):=by rw[aa BP];rfl
  have p1:W.cell? ⟨w1.heap.size,1,none⟩=some (.int .i64 (aL d a)):=by rw[aa BP];rfl
  have p2:W.cell? ⟨w1.heap.size,2,none⟩=some (.int .i64 (aW d a)):=by rw[aa BP];rfl
  have y0:=ae BF;have y1:=ae BP;rw[HWW.out];have HK:=(show Hid _ from K);have hD:Hid (aA (W.alloc (.cells #[.string (d.extract a z),.int .i64 0,.string nm,.int .i64 (aL d a),.int .i64 (aW d a)] 138)).drew h (ge L)):=(hO.still K).still ((ab.refl [] W).alloc _).drew;have s2:Hid (∀j u,([.string (d.extract a z),.int .i64 0,.string nm,.int .i64 (aL d a),.int .i64 (aW d a)]:List Value)[j]?=some u->(W.alloc (.cells #[.string (d.extract a z),.int .i64 0,.string nm,.int .i64 (aL d a),.int .i64 (aW d a)] 138)).drew.cell? ((⟨W.heap.size,0,none⟩:Addr).add j)=some u):=Iu W (kL nm d (d.extract a z) 0 a);have s3:Hid (∀u∈([.string (d.extract a z),.int .i64 0,.string nm,.int .i64 (aL d a),.int .i64 (aW d a)]:List Value),u.oneCell'=true):=FI (kL nm d (d.extract a z) 0 a);have s4:Hid ((ge L).n+1<=maxLen):=by show _<=_;simp only[ge];unfold maxLen;omega
  have s5:Hid (((ge L).n+1)*56<=140737488355328):=by show _<=_;simp only[ge];omega
  clear kW BP K BF B0 k0 k1 HWW hO
  go_region_law (refine cd rfl (.tmp 17) (.tmp 25) 101 rfl i0 (.agg #[.string ⟨#[]⟩,.int .i64 0,.string ⟨#[]⟩,.int .i64 0,.int .i64 0]) 56 h (ge L) Tryz.underlying101 hi hz0 hz1 hz2 rfl (show 0<5 by omega) (by simp[Act.eval] <;> rfl) hD.out ⟨W.heap.size,0,none⟩ 1 1 [.string (d.extract a z),.int .i64 0,.string nm,.int .i64 (aL d a),.int .i64 (aW d a)] (by simp[Act.eval]) rfl s2.out s3.out Nat.one_pos s4.out s5.out ?_;intro g5 cap5 w5 hw5 hgr5 hf5)
  all_goals
   have hw6:aA w5 ⟨some ⟨g5,0,none⟩,cap5⟩ (ge (L++[kL nm d (d.extract a z) 0 a])):=by rw[<-v8];exact hw5
   have HG:Hid (bh w w5 h ⟨some ⟨g5,0,none⟩,cap5⟩):=(bh.still (HK.out.trans ((ab.refl [] W).alloc _).drew)).trans (bh.made hgr5 (by simpa using hf5));have HO:=(show Hid _ from hw6);clear hw5 hgr5 hf5 hw6;go_wp2;go_ret;exact⟨_,by rw[HW.out];simp[ge],by rw[HW.out];exact HO.out,HG.out⟩
theorem bP(w:World){ops:Array Oper}{rest:List Oper}{o:Oper}{a:Act}{Q:Exit->Act->World->Prop}
  (hg:o.guard=none) (s x:Operand) (hop:o.op=Op.call { callee:=Callee.builtin Builtin.append,args:=#[s,x],argTypes:=#[101,101] })
  (h:Hd) (L:List Tk) (t:Tk) (hs:a.eval s=.slice h.ao L.length h.cap) (hown:aA w h (ge L)) (hL:L.length<=1000000) (hx:a.eval x=.slice (some ⟨w.heap.size,0,none⟩) 1 1)
  (hK:∀h' w',aA w' h' (ge (L++[t]))->bh w w' h h'->wpList Tryz.prog ops Q rest (a.put o.dst (.slice h'.ao (L.length+1) h'.cap)) w') :
  wpList Tryz.prog ops Q (o :: rest) a (w.alloc (.cells (xR t).toArray 138)):=by
 obtain⟨i0,hi,hz0,hz1,hz2⟩:=info_parts BB;have k1:ab [] w (w.alloc (.cells (xR t).toArray 138)):=(ab.refl [] _).alloc _;refine aM _ hg s x 101 hop i0 (.agg #[.string ⟨#[]⟩,.int .i64 0,.string ⟨#[]⟩,.int .i64 0,.int .i64 0]) 56 h (ge L) Tryz.underlying101 hi hz0 hz1 hz2 rfl (show 0<5 by omega) hs (hown.still k1) ⟨w.heap.size,0,none⟩ 1 1 (xR t) hx rfl (Iu w t) (FI t) Nat.one_pos (by simp only[ge];unfold maxLen;omega) (by simp only[ge];omega) ?_;intro g5 cap5 w5 hw5 hgr5 hf5;rw[v8]at hw5;exact hK ⟨some ⟨g5,0,none⟩,cap5⟩ w5 hw5 ((bh.still k1).trans (bh.made hgr5 hf5))
structure fH(w:World)(v:Nat)(fs:Fs)(h:Hd)(on:Bool)(p2 p3 p4:Value):Prop where
 d:w.heap[v]?=some (.cells #[.slice h.ao fs.length h.cap,.bool on,p2,p3,p4] 85 (0,0))
 own:aA w h (b8 fs)
 far:h.blk≠some v
 le:fs.length<=4
theorem fH.still{w w':World}{v:Nat}{fs:Fs}{h:Hd}{on:Bool}{p2 p3 p4:Value}(a:fH w v fs h on p2 p3 p4)(k:ab [] w w'):fH w' v fs h on p2 p3 p4 :=
 ⟨k.get a.d (by simp),a.own.still k,a.far,a.le⟩
def cW(w:World)(v:Nat)(h:Hd)(fs:Fs):Prop:=∃on p2 p3 p4,fH w v fs h on p2 p3 p4
theorem fH.keptS{S:List Nat}{w w':World}{v:Nat}{fs:Fs}{h:Hd}{on:Bool}{p2 p3 p4:Value}(a:fH w v fs h on p2 p3 p4)(k:ab S w w')(hv:v∉S)(hh:∀q,h.blk=some q->q∉S):fH w' v fs h on p2 p3 p4 :=
 ⟨k.get a.d hv,a.own.moved (fun q hq=>k.block q (a.own.lt hq) (hh q hq)),a.far,a.le⟩
def j6(w:World)(ao:Option Addr)(fs:Fs):Prop:=∀k,k<fs.length->∃g o,ao=some ⟨g,o,none⟩/\g<w.heap.size/\w.cell? ⟨g,o+k*2,none⟩=some (.string (aC fs k))/\w.cell? ⟨g,o+k*2+1,none⟩=some (.string (aj fs k))
theorem j6.kept{S:List Nat}{w w':World}{ao:Option Addr}{fs:Fs}(h:j6 w ao fs)(k:ab S w w')(hb:∀ad,ao=some ad->ad.block∉S):j6 w' ao fs:=by
 intro j hj;obtain⟨g,o,e,hg,c0,c1⟩:=h j hj;have q:∀i,w'.cell? ⟨g,i,none⟩=w.cell? ⟨g,i,none⟩:=fun i=>World.cell?_of_block (k.block g hg (hb _ e))
 exact⟨g,o,e,Nat.lt_of_lt_of_le hg k.size,by rw[q];exact c0,by rw[q];exact c1⟩
theorem Jq(fs:Fs)(k:Nat)(h:k<fs.length):fs.take k++[(aC fs k,aj fs k)]=fs.take (k+1):=by
 rw[List.take_add_one,List.getElem?_eq_getElem h];unfold aC aj;rw[List.getD_eq_getElem?_getD,List.getElem?_eq_getElem h];rfl
def yD(w:World)(v:Nat)(fs:Fs):World:=((((((((w.setCell ⟨v,0,none⟩ (.string (aC fs 0))).setCell ⟨v,1,none⟩ (.string (aj fs 0))).setCell ⟨v,2,none⟩ (.string (aC fs 1))).setCell ⟨v,3,none⟩ (.string (aj fs 1))).setCell ⟨v,4,none⟩ (.string (aC fs 2))).setCell ⟨v,5,none⟩ (.string (aj fs 2))).setCell ⟨v,6,none⟩ (.string (aC fs 3))).setCell ⟨v,7,none⟩ (.string (aj fs 3))).setCell ⟨v,8,none⟩ (.int .i64 fs.length)
theorem Gm(fs fs':Fs)(more:List Value):(((((((((mC fs++more).set 0 (.string (aC fs' 0))).set 1 (.string (aj fs' 0))).set 2 (.string (aC fs' 1))).set 3 (.string (aj fs' 1))).set 4 (.string (aC fs' 2))).set 5 (.string (aj fs' 2))).set 6 (.string (aC fs' 3))).set 7 (.string (aj fs' 3))).set 8 (.int .i64 fs'.length)=mC fs'++more:=rfl
theorem bm.over{w:World}{v t:Nat}{fs fs':Fs}{more:List Value}(h:bm w v t fs more)(hl:fs'.length<=4):bm (yD w v fs') v t fs' more:=by
 refine⟨?_,hl⟩;unfold yD;rw[ah (ah (ah (ah (ah (ah (ah (ah (ah h.1 0 _) 1 _) 2 _) 3 _) 4 _) 5 _) 6 _) 7 _) 8 _];simp only[List.setIfInBounds_toArray,Gm]
theorem Bt{S:List Nat}{w w':World}(h:ab S w w'){v:Nat}(hx:v∈S∨w.heap.size<=v)(fs:Fs):ab S w (yD w' v fs) :=
 ((((((((h.setCell hx _).setCell hx _).setCell hx _).setCell hx _).setCell hx _).setCell hx _).setCell hx _).setCell hx _).setCell hx _
theorem bm.nine{w:World}{v t:Nat}{fs:Fs}{more:List Value}(h:bm w v t fs more) :
  w.cell? ⟨v,0,none⟩=some (.string (aC fs 0))/\w.cell? ⟨v,1,none⟩=some (.string (aj fs 0))/\w.cell? ⟨v,2,none⟩=some (.string (aC fs 1))/\w.cell? ⟨v,3,none⟩=some (.string (aj fs 1))/\w.cell? ⟨v,4,none⟩=some (.string (aC fs 2))/\w.cell? ⟨v,5,none⟩=some (.string (aj fs 2))/\w.cell? ⟨v,6,none⟩=some (.string (aC fs 3))/\w.cell? ⟨v,7,none⟩=some (.string (aj fs 3))/\w.cell? ⟨v,8,none⟩=some (.int .i64 fs.length):=by
 refine⟨?_,?_,?_,?_,?_,?_,?_,?_,?_⟩ <;> (rw[aa h.1];rfl)
set_option maxRecDepth 100000 in
theorem EH(v t:Nat)(fs0 fs:Fs)(more:List Value)(ao:Option Addr)(cap:Nat)(w:World)(h:bm w v t fs0 more)(hS:j6 w ao fs)(hsz:kt fs) :
  Calls Tryz.prog 48 #[.pointer (some ⟨v,0,none⟩),.slice ao fs.length cap] w fun e w'=>e=.returned (.int .i64 (gg fs))/\bm w' v t (jz fs0 fs) more/\ab [v] w w':=by
 have HT:Hid (bm w v t fs0 more):=h
 by_cases h4:4<fs.length
 ·have HL:Hid (gg fs=1):=by show _=_;unfold gg;rw[if_pos h4]
  have HLL:=(show Hid _ from mg (fs0:=fs0) HL.out (by decide));rw[HL.out];have h4i:(4:Int)<(fs.length:Int):=by omega
  clear h;go_enter Tryz.func48,Tryz.ntmps48;go_wp2;go_ret;exact⟨rfl,by rw[HLL.out];exact HT.out,ab.refl _ _⟩
 ·have HL:Hid (gg fs=dh (z9 fs) fs.length):=by show _=_;unfold gg;rw[if_neg h4]
  obtain⟨r,Hr⟩:∃r,Hid (gg fs=r):=⟨_,rfl⟩
  rw[Hr.out]at HL ⊢;have h4i:¬(4:Int)<(fs.length:Int):=by omega
  have HS:Hid (j6 w ao fs):=hS;have HSZ:=(show Hid _ from hsz);have hvw:v<w.heap.size:=h.lt;obtain⟨W,HW⟩:∃W,Hid (w.alloc (.cells #[.string ⟨#[]⟩,.string ⟨#[]⟩,.string ⟨#[]⟩,.string ⟨#[]⟩,.string ⟨#[]⟩,.string ⟨#[]⟩,.string ⟨#[]⟩,.string ⟨#[]⟩,.int .i64 0] 73)=W):=⟨_,rfl⟩
  have HKW:Hid (ab [] w W):=by show ab _ _ _;rw[<-HW.out];exact(ab.refl [] _).alloc _
  have HTW:Hid (bm W w.heap.size 73 (fs.take 0) []):=by show bm _ _ _ _ _;rw[<-HW.out];exact⟨heap_alloc_new _ _,by simp⟩
  clear h hS hsz;go_enter Tryz.func48,Tryz.ntmps48
  go_upto_region 4 with fail
  rw[HW.out];go_wp2
  go_loopg [6] fs.length (fun g iv wr=>∃k:Nat,k<=fs.length/\g=fs.length-k/\iv=.int .i64 k/\Hid (dh (z9 fs) k=0)/\Hid (bm wr w.heap.size 73 (fs.take k) [])/\Hid (ab [] w wr))
  case atStart=>exact⟨0,by omega,rfl,rfl,rfl,HTW,HKW⟩
  case round =>
   obtain⟨k,hk,hg,rfl,HZ,HTr,HK⟩:=hrel
   by_cases hlt:k<fs.length
   ·have hki:(k:Int)<(fs.length:Int):=by omega
    obtain⟨g0,o0,rfl,hg0,c0,c1⟩:=(j6.kept HS.out HK.out (by simp)) k hlt;have HC:Hid (∀w',ab [] wr w'->w'.cell? ⟨g0,o0+k*2,none⟩=some (.string (aC fs k))/\w'.cell? ⟨g0,o0+k*2+1,none⟩=some (.string (aj fs k))/\g0<w'.heap.size):=fun w' kw=>⟨by rw[World.cell?_of_block (kw.block g0 hg0 (by simp))];exact c0,by rw[World.cell?_of_block (kw.block g0 hg0 (by simp))];exact c1,Nat.lt_of_lt_of_le hg0 kw.size⟩
    have HFT:Hid (∀wx,Calls Tryz.prog 49 #[.string (aC fs k),.string (aj fs k)] wx fun e w'=>e=.returned (.int .i64 (cn (aC fs k) (aj fs k)))/\w'=wx):=fun wx=>l9 _ _ wx (HSZ.out k).1 (by have:=(HSZ.out k).2;omega)
    have HFI:Hid (∀wx,bm wx w.heap.size 73 (fs.take k) []->Calls Tryz.prog 50 #[.pointer (some ⟨w.heap.size,0,none⟩),.string (aC fs k)] wx fun e w'=>e=.returned (.int .i64 (bt (fs.take k) (aC fs k)))/\w'=wx):=fun wx hx=>ku _ _ _ _ _ wx hx
    have hl:(fs.take k).length=k:=by rw[List.length_take];omega
    have HAD:Hid (∀wx,bm wx w.heap.size 73 (fs.take k) []->Calls Tryz.prog 51 #[.pointer (some ⟨w.heap.size,0,none⟩),.agg #[.string (aC fs k),.string (aj fs k)]] wx fun e w'=>e=.returned (.tuple #[])/\bm w' w.heap.size 73 (fs.take (k+1)) []/\ab [w.heap.size] wx w'):=fun wx hx=>by
     rw[<-Jq fs k hlt];exact Cx _ _ _ _ _ _ wx hx (by rw[hl];omega)
    have HE:Hid (z9 fs k=if(cn (aC fs k) (aj fs k)==0)=false then cn (aC fs k) (aj fs k) else if 0<=bt (fs.take k) (aC fs k) then 4 else 0):=rfl;have HST:Hid ((z9 fs k==0)=false->r=z9 fs k):=fun q=>by rw[HL.out];exact mz HZ.out q hlt
    have HGO:Hid (z9 fs k=0->dh (z9 fs) (k+1)=0):=fun q=>by rw[dh,HZ.out];exact q
    clear hl;generalize aC fs k=nm at *;generalize aj fs k=dt at *;obtain⟨ck,Hck⟩:∃ck,Hid (cn nm dt=ck):=⟨_,rfl⟩
    rw[Hck.out]at HFT HE;obtain⟨fi,Hfi⟩:∃fi,Hid (bt (fs.take k) nm=fi):=⟨_,rfl⟩
    rw[Hfi.out]at HFI HE
    go_upto_region 7 with fail
    go_region_with (go_at_call 49;refine(HFT.out _).mono ?_;rintro e w9 ⟨rfl,hw9⟩)
    all_goals
     subst hw9;obtain⟨w9,H9⟩:∃w9,Hid (wr.drew=w9):=⟨_,rfl⟩
     rw[H9.out];have HK9:Hid (ab [] wr w9):=by show ab _ _ _;rw[<-H9.out];exact(ab.refl [] wr).drew
     clear c0 c1 hg0
     cases hck:(ck==0)
     ·rw[hck,if_pos rfl]at HE
      have HX:=(show Hid _ from HST.out (by rw[HE.out];exact hck));rw[HE.out]at HX;have hcn:(ck != 0)=true:=by unfold bne;rw[hck];rfl
      go_wp2;go_ret;exact⟨am HX.out.symm,by rw[mg (Hr.out.trans HX.out) (fun q=>by rw[q]at hck;cases hck)];exact bm.kept HT.out (HK.out.trans HK9.out) (by simp),(HK.out.trans HK9.out).mono (by simp)⟩
     ·rw[hck,if_neg (by simp)]at HE
      have hcn:(ck != 0)=false:=by unfold bne;rw[hck];rfl
      obtain⟨d0,d1,d2⟩:=HC.out w9 HK9.out;have HT9:Hid (bm w9 w.heap.size 73 (fs.take k) []):=bm.kept HTr.out HK9.out (by simp)
      by_cases hfi:0<=fi
      ·rw[if_pos hfi]at HE
       have HX:=(show Hid _ from HST.out (by rw[HE.out];rfl));rw[HE.out]at HX;go_wp2_with (go_at_call 50;refine(HFI.out _ HT9.out).mono ?_;rintro e w8 ⟨rfl,hw8⟩;rw[hw8];clear hw8);go_ret;exact⟨am HX.out.symm,by rw[mg (Hr.out.trans HX.out) (by decide)];exact bm.kept HT.out (HK.out.trans HK9.out) (by simp),(HK.out.trans HK9.out).mono (by simp)⟩
      ·rw[if_neg hfi]at HE
       have HM:=(show Hid _ from HGO.out HE.out)
       go_upto_region 12 with (go_at_call 50;refine(HFI.out _ HT9.out).mono ?_;rintro e w8 ⟨rfl,hw8⟩;rw[hw8];clear hw8)
       go_wp2_with (go_at_call 51;refine(HAD.out _ HT9.out).mono ?_;rintro e w8 ⟨rfl,ht8,hk8⟩)
       go_roundg (fs.length-(k+1))
       case measure=>omega
       case rel=>exact⟨k+1,by omega,rfl,by go_num,HM,ht8,((HK.out.trans HK9.out).mono (S':=[w.heap.size]) (by simp)).trans hk8 |>.mono (fun q hq hlt=>by simp at hq;omega)⟩
   ·have e:k=fs.length:=by omega
    subst e;have HX:Hid (r=0):=by show _=_;rw[HL.out];exact HZ.out
    have hnn:¬(fs.length:Int)<(fs.length:Int):=by omega
    rw[List.take_length]at HTr;obtain⟨q0,q1,q2,q3,q4,q5,q6,q7,q8⟩:=bm.nine HTr.out;have hzB:=bm.lt HTr.out;have HTv:Hid (bm wr v t fs0 more):=bm.kept HT.out HK.out (by simp);obtain⟨p0,p1,p2,p3,p4,p5,p6,p7,p8⟩:=bm.nine HTv.out;have hfr:=bm.free HTv.out;have hzv:=bm.lt HTv.out;have HTN:Hid (bm (yD wr v fs) v t fs more):=bm.over HTv.out (by omega);unfold yD at HTN;have HX0:=(show Hid _ from vv (fs0:=fs0) (Hr.out.trans HX.out));go_wp2;go_ret;exact⟨am HX.out.symm,by rw[HX0.out];exact HTN.out,Bt (HK.out.mono (by simp)) (Or.inl (by simp)) _⟩
theorem vV(x:Nat)(fs0 fs:Fs)(ao:Option Addr)(cap:Nat)(w:World)(h:bW w x fs0)(hS:j6 w ao fs)(hsz:kt fs) :
  Calls Tryz.prog 30 #[.pointer (some ⟨x,0,none⟩),.slice ao fs.length cap] w fun e w'=>e=.returned (.int .i64 (gg fs))/\bW w' x (jz fs0 fs)/\ab [x] w w':=by
 obtain⟨rep,a,b,c,h⟩:=h;have HPF:=(show Hid _ from EH x 80 fs0 fs [.bool rep,a,b,c] ao cap w h hS hsz);generalize gg fs=e0 at *;generalize jz fs0 fs=fs' at *
 cases he:(e0==0)
 ·go_enter Tryz.func30,Tryz.ntmps30
  go_wp2_with (go_at_call 48;refine Calls.mono HPF.out ?_;rintro e w2 ⟨rfl,h2,hk2⟩);go_ret;exact⟨rfl,⟨rep,a,b,c,h2⟩,hk2⟩
 ·go_enter Tryz.func30,Tryz.ntmps30
  go_upto_region 3 with (go_at_call 48;refine Calls.mono HPF.out ?_;rintro e w2 ⟨rfl,h2,hk2⟩)
  go_wp2_with (go_at_call 33;refine(tK x fs' w2 ⟨rep,a,b,c,h2⟩).mono ?_;rintro e w3 ⟨rfl,h3,hk3⟩);go_ret;exact⟨rfl,h3.anyR,hk2.trans hk3⟩
theorem yJ(x:Nat)(fs:Fs)(n:ByteArray)(w:World)(h:bW w x fs)(hf:bt fs n<0) :
  Calls Tryz.prog 36 #[.pointer (some ⟨x,0,none⟩),.string n] w fun e w'=>e=.returned (.tuple #[.agg #[.int .i64 0,.string ⟨#[]⟩,.int .i64 0,.int .i64 0],.int .i64 5])/\bW w' x fs/\ab [x] w w':=by
 have hxw:=h.lt;obtain⟨W,HW⟩:∃W,Hid (w.alloc (.cells #[.int .i64 0,.string ⟨#[]⟩,.int .i64 0,.int .i64 0] 87)=W):=⟨_,rfl⟩
 have HK:Hid (ab [] w W):=by show ab _ _ _;rw[<-HW.out];exact(ab.refl [] _).alloc _
 have hF:W.heap[w.heap.size]?=some (.cells #[.int .i64 0,.string ⟨#[]⟩,.int .i64 0,.int .i64 0] 87 (0,0)):=by rw[<-HW.out];exact heap_alloc_new _ _
 have hV:=h.kept HK.out (by simp);have HV:Hid (bW W x fs):=hV;obtain⟨f0,Hf0⟩:∃f0,Hid (bt fs n=f0):=⟨_,rfl⟩
 rw[Hf0.out]at hf
 have HFA:Hid (Calls Tryz.prog 50 #[.pointer (some ⟨x,0,none⟩),.string n] W fun e w'=>e=.returned (.int .i64 f0)/\w'=W):=by
  show Calls _ _ _ _ _
  obtain⟨rep,a,b,c,hv⟩:=hV;rw[<-Hf0.out];exact ku x _ fs _ n W hv
 have z0:W.cell? ⟨w.heap.size,0,none⟩=some (.int .i64 0):=by rw[aa hF];rfl
 have z1:W.cell? ⟨w.heap.size,1,none⟩=some (.string ⟨#[]⟩):=by rw[aa hF];rfl
 have z2:W.cell? ⟨w.heap.size,2,none⟩=some (.int .i64 0):=by rw[aa hF];rfl
 have z3:W.cell? ⟨w.heap.size,3,none⟩=some (.int .i64 0):=by rw[aa hF];rfl
 have yf:=ak hF;have hFw:=ae hF;have HKS:Hid (∀u0 u1 u2 u3,ab [] w ((((W.setCell ⟨w.heap.size,0,none⟩ u0).setCell ⟨w.heap.size,1,none⟩ u1).setCell ⟨w.heap.size,2,none⟩ u2).setCell ⟨w.heap.size,3,none⟩ u3)):=fun u0 u1 u2 u3=>(((HK.out.setCell (Or.inr (Nat.le_refl _)) _).setCell (Or.inr (Nat.le_refl _)) _).setCell (Or.inr (Nat.le_refl _)) _).setCell (Or.inr (Nat.le_refl _)) _
 have HS:=(show Hid (bW w x fs) from h);clear h hV hF HK;go_enter Tryz.func36,Tryz.ntmps36
 go_upto_region 1 with fail
 rw[HW.out];go_wp2_with (go_at_call 50;refine Calls.mono HFA.out ?_;rintro e w9 ⟨rfl,hw9⟩;rw[hw9];clear hw9);exact bodyPost_ret (v:=.tuple #[.agg #[.int .i64 0,.string ⟨#[]⟩,.int .i64 0,.int .i64 0],.int .i64 5]) (by simp[results,Tryz.results36,go_sem,z0,z1,z2,z3]) rfl ⟨rfl,bW.kept HS.out (HKS.out _ _ _ _) (by simp),(HKS.out _ _ _ _).mono (by simp)⟩
def rC(c:Int):Prop:=-9223372036854775808<=c/\c<=9223372036854775807
def f9(c:Int)(n:Nat):Nat:=((if c<0 then -(c+1) else c).tmod n).toNat
theorem ju(c:Int)(n:Nat)(hn:1<=n):f9 c n<n:=by
 unfold f9
 split
 ·have h1:0<=(-(c+1)).tmod n/\(-(c+1)).tmod n<n:=⟨Int.tmod_nonneg _ (by omega),Int.tmod_lt_of_pos _ (by omega)⟩
  omega
 ·have h1:0<=c.tmod n/\c.tmod n<n:=⟨Int.tmod_nonneg _ (by omega),Int.tmod_lt_of_pos _ (by omega)⟩
  omega
theorem ij(c:Int)(n:Nat)(w:World)(hc:rC c)(hn:1<=n/\n<=4294967296) :
  Calls Tryz.prog 12 #[.int .i64 c,.int .i64 n] w fun e w'=>e=.returned (.int .i64 (f9 c n:Nat))/\w'=w:=by
 obtain⟨hc1,hc2⟩:=hc;have hn1:(1:Int)<=(n:Int):=by omega
 have hn2:(n:Int)<=4294967296:=by omega
 have hnz:((n:Int)==0)=false:=beq_eq_false_iff_ne.2 (by omega)
 by_cases h0:c<0
 ·have h1:0<=(-(c+1)).tmod n/\(-(c+1)).tmod n<n:=⟨Int.tmod_nonneg _ (by omega),Int.tmod_lt_of_pos _ (by omega)⟩
  have H1:=(show Hid _ from h1);have HP:Hid (f9 c n=((-(c+1)).tmod n).toNat):=by show _=_;unfold f9;rw[if_pos h0]
  clear h1;go_enter Tryz.func12,Tryz.ntmps12;go_wp2
  all_goals go_ret
  all_goals
   have h1:=H1.out;refine⟨am ?_,rfl⟩;rw[HP.out]
   first | (simp only[Int.neg_tmod]at *;omega) | (rw[Int.toNat_of_nonneg h1.1])
 ·have h1:0<=c.tmod n/\c.tmod n<n:=⟨Int.tmod_nonneg _ (by omega),Int.tmod_lt_of_pos _ (by omega)⟩
  have h2:c.tmod n=c % n:=Int.tmod_eq_emod_of_nonneg (by omega);have H1:=(show Hid _ from h1);have H2:=(show Hid _ from h2);have HP:Hid (f9 c n=(c.tmod n).toNat):=by show _=_;unfold f9;rw[if_neg h0]
  clear h1 h2;go_enter Tryz.func12,Tryz.ntmps12;go_wp2
  all_goals go_ret
  all_goals
   have h1:=H1.out;have h2:=H2.out;refine⟨am ?_,rfl⟩;rw[HP.out]
   first | (rw[Int.toNat_of_nonneg h1.1];done) | (rw[Int.toNat_of_nonneg h1.1,h2])
theorem lU(ao bo:Option Addr)(ca cb:Nat)(fs:Fs)(w:World)(ha:j6 w ao fs)(hb:j6 w bo fs)(hl:fs.length<=4294967296) :
  Calls Tryz.prog 26 #[.slice ao fs.length ca,.slice bo fs.length cb] w fun e w'=>e=.returned (.bool true)/\∃n,w'=w.drewN n:=by
 have HA:Hid (j6 w ao fs):=ha;have HB:Hid (j6 w bo fs):=hb;clear ha hb;go_enter Tryz.func26,Tryz.ntmps26;go_wp2
 go_loopg [5] fs.length (fun g i wr=>∃k:Nat,k<=fs.length/\g=fs.length-k/\i=.int .i64 k/\Hid (∃n,wr=w.drewN n))
 case atStart=>exact⟨0,by omega,by omega,rfl,0,rfl⟩
 case round =>
  obtain⟨k,hk,hg,rfl,HW⟩:=hrel;have HK:Hid (ab [] w wr):=by show ab _ _ _;obtain⟨n,e⟩:=HW.out;rw[e];exact(ab.refl [] w).drewN n
  by_cases hlt:k<fs.length
  ·have hki:(k:Int)<(fs.length:Int):=by omega
   obtain⟨g1,o1,rfl,h1,c0,c1⟩:=(j6.kept HA.out HK.out (by simp)) k hlt;obtain⟨g2,o2,rfl,h2,d0,d1⟩:=(j6.kept HB.out HK.out (by simp)) k hlt;generalize aC fs k=nm at *;generalize aj fs k=dt at *
   go_upto_region 6 with fail
   go_quiet (fail)
   have HW2:Hid (∃n,wr.drewN nq=w.drewN n):=by show ∃_,_;obtain⟨n,e⟩:=HW.out;exact⟨n+nq,by rw[e,World.drewN_drewN]⟩
   go_wp2
   go_roundg (fs.length-(k+1))
   case measure=>omega
   case rel=>exact⟨k+1,by omega,rfl,by go_num,HW2⟩
  ·have hnn:¬(k:Int)<(fs.length:Int):=by omega
   go_wp2;go_ret;exact⟨rfl,HW.out⟩
theorem AY{P:Program}(w:World)(dT sT ty:TypeId)(g cap c n:Nat)(ao:Option Addr)(r:dK)(cur:Array Value)(t:TypeId)
  (hu:P.underlying dT=some (.slice r.e)) (hs:(P.info? r.e).map (·.size)=some r.size) (hg:w.heap[g]?=some (.cells cur t (0,0))) (hn:r.n=n) (hl:r.xs.length=r.n*r.size) (h0:ao=none->r.xs=[]) (hc:∀ad,ao=some ad->∀j v,r.xs[j]?=some v->w.cell? (ad.add j)=some v) (hsz:cur.size=r.n*r.size) (h1:∀v∈r.xs,v.oneCell'=true) :
  ∃w',(Builtin.copy_ #[dT,sT] ty #[.slice (some ⟨g,0,none⟩) n cap,.slice ao n c]).run P w=.ok (goInt n) w'/\w'.heap[g]?=some (.cells r.xs.toArray t (0,0))/\ab [g] w w'/\w'.heap.size=w.heap.size:=by
 subst hn;refine⟨w.setRow g r.xs.toArray,?_,setRow_heap w g _ _ t _ hg,rI (ab.refl _ _) (Or.inl (by simp)) _,by simp[World.setRow]⟩;have hst:=run_storeCells_at P g 0 t r.xs 0 cur w hg (by simp;omega) h1
 have e0:(cur.toList.take (0+0)++r.xs++cur.toList.drop (0+0+r.xs.length))=r.xs:=by
  simp;omega
 rw[e0]at hst
 have hfc:(Builtin.firstCells r.size r.n (.slice ao r.n c)).run P w=.ok r.xs.toArray w:=by
  cases ao with
  | none=>rw[h0 rfl];exact run_firstCells_none w _ _ _ _
  | some ad=>exact run_firstCells_some w r.size r.n ad r.n c r.xs hl (hc ad rfl)
 cases hq:P.info? r.e with
 | none=>simp[hq]at hs
 | some i =>
  have hi:i.size=r.size:=by simpa [hq] using hs
  simp[Builtin.copy_,run_underlying hu,Builtin.lenOf,sizeOf,typeInfo,hq,hi,hfc,hst]
theorem j6.cells{w:World}{ao:Option Addr}{fs:Fs}(h:j6 w ao fs):(ao=none->oE fs=[])/\∀ad,ao=some ad->∀j v,(oE fs)[j]?=some v->w.cell? (ad.add j)=some v:=by
 refine⟨fun e=>?_,fun ad e j v hv=>?_⟩
 ·cases fs with
  | nil=>rfl
  | cons a L=>obtain⟨g,o,e2,-⟩:=h 0 (by simp);rw[e]at e2;cases e2
 ·have hl:j<fs.length*2:=by
   rw[<-sN];exact(List.getElem?_eq_some_iff.1 hv).1
  obtain⟨g,o,e2,-,c0,c1⟩:=h (j / 2) (by omega);rw[e]at e2
  cases e2
  obtain⟨f0,f1⟩:=uw fs (j / 2) (by omega);have ea:(⟨g,o,none⟩:Addr).add j=⟨g,o+j,none⟩:=by simp[Addr.add]
  rw[ea]
  rcases Nat.mod_two_eq_zero_or_one j with e | e
  ·rw[show o+j / 2*2=o+j by omega]at c0
   rw[show j / 2*2=j by omega]at f0;rw[f0]at hv;rw[c0,<-hv]
  ·rw[show o+j / 2*2+1=o+j by omega]at c1
   rw[show j / 2*2+1=j by omega]at f1;rw[f1]at hv;rw[c1,<-hv]
theorem iH(ao:Option Addr)(c:Nat)(fs:Fs)(w:World)(ha:j6 w ao fs)(hl:fs.length<=1073741824) :
  Calls Tryz.prog 29 #[.slice ao fs.length c] w fun e w'=>e=.returned (.slice (some ⟨w.heap.size,0,none⟩) fs.length fs.length)/\w'.heap[w.heap.size]?=some (.cells (oE fs).toArray 68 (0,0))/\ab [] w w':=by
 obtain⟨i0,hi,hz0,hz1,hz2⟩:=info_parts xO;have m1:=fun w=>dn (P:=Tryz.prog) w 33 68 i0 _ Tryz.underlying33 hi hz0 fs.length 2 hz1 (by rw[hz2];omega) (by omega)
 obtain⟨mc1,hmc1⟩:∃mc,mc=madeCells (Value.agg #[.string ⟨#[]⟩,.string ⟨#[]⟩]).cells (fs.length*2):=⟨_,rfl⟩
 have z1:mc1.size=fs.length*2:=by rw[hmc1,size_madeCells]
 rw[<-hmc1]at m1;clear hmc1;obtain⟨W,HW⟩:∃W,Hid (w.alloc (.cells mc1 68)=W):=⟨_,rfl⟩
 have kW:ab [] w W:=by rw[<-HW.out];exact(ab.refl [] _).alloc _
 have GW:W.heap[w.heap.size]?=some (.cells mc1 68 (0,0)):=by rw[<-HW.out];exact heap_alloc_new _ _
 have Hsz1:(Tryz.prog.info? (b8 fs).e).map (·.size)=some (b8 fs).size:=by simp[b8,hi,hz1]
 have hS:=(ha.kept kW (by simp)).cells;obtain⟨w3,cp1,hg3,hk3,hz3⟩:=AY (P:=Tryz.prog) W 33 33 3 w.heap.size fs.length c fs.length ao (b8 fs) mc1 68 Tryz.underlying33 Hsz1 GW rfl (sN fs) hS.1 hS.2 z1 (C3 fs);have HG3:Hid (w3.heap[w.heap.size]?=some (.cells (oE fs).toArray 68 (0,0))):=hg3;have HK3:Hid (ab [] w w3):=((kW.mono (S':=[w.heap.size]) (by simp)).trans hk3).mono (by simp);clear ha kW GW hS Hsz1 hg3 hk3 hz3 z1;go_enter Tryz.func29,Tryz.ntmps29
 go_upto_region 2 with fail
 rw[HW.out];go_wp2;go_ret;exact⟨rfl,HG3.out,HK3.out⟩
end Go.Proofs.YtpddjjabfbfifaaGreat
