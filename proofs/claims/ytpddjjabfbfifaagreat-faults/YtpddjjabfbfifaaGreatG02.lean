import Derived.Deep.RegionHeld3
import Derived.Deep.RegionLaw
import Derived.Deep.CutRange
import Derived.Test.YtpddjjabfbfifaaGreatG01
namespace Go.Proofs.YtpddjjabfbfifaaGreat
open Go.RowKit
set_option maxHeartbeats 40000000
structure It where
 B:List Nat
 P:World->Prop
 lt:∀w,P w->∀b,b∈B->b<w.heap.size
 ok:∀S w w',P w->ab S w w'->(∀b,b∈B->b∉S)->P w'
def ff(I:Nat×Nat->It)(k:Nat×Nat)(it:It):Nat×Nat->It:=fun q=>if q=k then it else I q
theorem bS(I:Nat×Nat->It)(k:Nat×Nat)(it:It):ff I k it k=it:=by unfold ff;rw[if_pos rfl]
theorem aq(I:Nat×Nat->It){k q:Nat×Nat}(it:It)(h:q≠k):ff I k it q=I q:=by unfold ff;rw[if_neg h]
theorem bA{a b c d:Nat}(h:a≠c):((a,b):Nat×Nat)≠(c,d):=fun e=>h (by cases e;rfl)
theorem tX{a b c d:Nat}(h:b≠d):((a,b):Nat×Nat)≠(c,d):=fun e=>h (by cases e;rfl)
structure ny(w:World)(I:Nat×Nat->It):Prop where
 all:∀k,(I k).P w
 far:∀k k',k≠k'->∀b,b∈(I k).B->b∉(I k').B
theorem ny.still{w w':World}{I:Nat×Nat->It}(h:ny w I)(k:ab [] w w'):ny w' I :=
 ⟨fun q=>(I q).ok [] w w' (h.all q) k (fun _ _ hb=>by cases hb),h.far⟩
theorem ny.put{w w':World}{I:Nat×Nat->It}(h:ny w I)(k:Nat×Nat)(it:It)(K:ab (I k).B w w')(hp:it.P w')(hb:∀b,b∈it.B->b∈(I k).B∨w.heap.size<=b):ny w' (ff I k it):=by
 refine⟨fun q=>?_,fun q q' hq b h1 h2=>?_⟩
 ·by_cases e:q=k
  ·subst e;rw[bS];exact hp
  ·rw[aq I it e]
   exact(I q).ok _ w w' (h.all q) K (fun b h1=>h.far q k e b h1)
 ·by_cases e:q=k
  ·subst e
   rw[bS]at h1;rw[aq I it (Ne.symm hq)]at h2
   rcases hb b h1 with h3 | h3
   ·exact h.far q q' hq b h3 h2
   ·have:=(I q').lt w (h.all q') b h2;omega
  ·rw[aq I it e]at h1
   by_cases e':q'=k
   ·subst e'
    rw[bS]at h2
    rcases hb b h2 with h3 | h3
    ·exact h.far q q' hq b h1 h3
    ·have:=(I q).lt w (h.all q) b h1;omega
   ·rw[aq I it e']at h2
    exact h.far q q' hq b h1 h2
theorem ny.put2{w w':World}{I:Nat×Nat->It}(h:ny w I)(k1 k2:Nat×Nat)(hk:k1≠k2)(i1 i2:It)(K:ab ((I k1).B++(I k2).B) w w')(p1:i1.P w')(p2:i2.P w')(b1:∀b,b∈i1.B->b∈(I k1).B∨w.heap.size<=b)(b2:∀b,b∈i2.B->b∈(I k2).B∨w.heap.size<=b)(hd:∀b,b∈i1.B->b∉i2.B):ny w' (ff (ff I k1 i1) k2 i2):=by
 have far1:∀q,q≠k1->q≠k2->∀b,b∈(I q).B->b∉i1.B/\b∉i2.B:=fun q h1 h2 b hb=>by
  have:=(I q).lt w (h.all q) b hb;refine⟨fun x=>?_,fun x=>?_⟩
  ·rcases b1 b x with h3 | h3
   ·exact h.far q k1 h1 b hb h3
   ·omega
  ·rcases b2 b x with h3 | h3
   ·exact h.far q k2 h2 b hb h3
   ·omega
 have e1:ff (ff I k1 i1) k2 i2 k1=i1:=by rw[aq _ _ hk,bS]
 have e2:ff (ff I k1 i1) k2 i2 k2=i2:=bS _ _ _;have e3:∀q,q≠k1->q≠k2->ff (ff I k1 i1) k2 i2 q=I q:=fun q h1 h2=>by rw[aq _ _ h2,aq _ _ h1]
 refine⟨fun q=>?_,fun q q' hq b h1 h2=>?_⟩
 ·by_cases q1:q=k1
  ·subst q1;rw[e1];exact p1
  ·by_cases q2:q=k2
   ·subst q2;rw[e2];exact p2
   ·rw[e3 q q1 q2]
    exact(I q).ok _ w w' (h.all q) K (fun b hb hm=>(List.mem_append.1 hm).elim (h.far q k1 q1 b hb) (h.far q k2 q2 b hb))
 ·by_cases q1:q=k1
  ·subst q1
   rw[e1]at h1
   by_cases q2:q'=k2
   ·subst q2;rw[e2]at h2;exact hd b h1 h2
   ·rw[e3 q' (Ne.symm hq) q2]at h2;exact(far1 q' (Ne.symm hq) q2 b h2).1 h1
  ·by_cases q2:q=k2
   ·subst q2
    rw[e2]at h1
    by_cases q3:q'=k1
    ·subst q3;rw[e1]at h2;exact hd b h2 h1
    ·rw[e3 q' q3 (Ne.symm hq)]at h2;exact(far1 q' q3 (Ne.symm hq) b h2).2 h1
   ·rw[e3 q q1 q2]at h1
    by_cases q3:q'=k1
    ·subst q3;rw[e1]at h2;exact(far1 q q1 q2 b h1).1 h2
    ·by_cases q4:q'=k2
     ·subst q4;rw[e2]at h2;exact(far1 q q1 q2 b h1).2 h2
     ·rw[e3 q' q3 q4]at h2;exact h.far q q' hq b h1 h2
theorem ny.off{w:World}{I:Nat×Nat->It}(h:ny w I){k k':Nat×Nat}(hk:k≠k'){b:Nat}(hb:b∈(I k).B):b∉(I k').B:=h.far k k' hk b hb
structure Tk where
 s:ByteArray
 rule:Int
 file:ByteArray
 line:Int
 col:Int
def xR(t:Tk):List Value:=[.string t.s,.int .i64 t.rule,.string t.file,.int .i64 t.line,.int .i64 t.col]
def Ld(L:List Tk):List Value:=L.flatMap xR
def f9(L:List Tk):dK:=⟨138,5,L.length,Ld L⟩
theorem KU(L:List Tk)(j:Nat)(t:Tk)(h:L[j]?=some t)(c:Nat)(hc:c<5):(Ld L)[j*5+c]?=(xR t)[c]?:=by
 induction L generalizing j with
 | nil=>cases h
 | cons a L ih =>
  have e:Ld (a :: L)=xR a++Ld L:=rfl
  cases j with
  | zero =>
   simp at h;subst h;rw[e,List.getElem?_append_left (by simp[xR];omega)];simp
  | succ j =>
   rw[e,List.getElem?_append_right (by simp[xR];omega),show(j+1)*5+c-(xR a).length=j*5+c by simp[xR];omega];exact ih j (by simpa using h)
theorem v9(L:List Tk)(t:Tk):(⟨(f9 L).e,(f9 L).size,(f9 L).n+1,(f9 L).xs++xR t⟩:dK)=f9 (L++[t]):=by
 simp[f9,Ld]
def cM(d:ByteArray):Nat->Nat
 | 0=>0
 | i+1=>if cv (aF d i)=true then i+1 else cM d i
def kL(nm d:ByteArray)(s:ByteArray)(r:Int)(k:Nat):Tk:=⟨s,r,nm,aL d k,aW d k⟩
def ia(nm d:ByteArray)(a z:Nat)(L:List Tk):List Tk:=if a=z then L else L++[kL nm d (d.extract a z) 0 a]
def h9(nm d:ByteArray):Nat->List Tk
 | 0=>[]
 | i+1=>if cv (aF d i)=true then ia nm d (cM d i) i (h9 nm d i) else h9 nm d i
def oA(n:Int):Bool:=!eG n && !cv n
def iG(d:ByteArray):Option Nat:=(List.range d.size).find? (fun i=>oA (aF d i))
def fS(nm d:ByteArray):List Tk:=match iG d with
 | some i=>h9 nm d i++[kL nm d ⟨#[]⟩ 1 i]
 | none=>ia nm d (cM d d.size) d.size (h9 nm d d.size)++[kL nm d ⟨#[]⟩ 0 d.size]
theorem mt(d:ByteArray)(i:Nat):cM d i<=i:=by
 induction i with
 | zero=>exact Nat.le_refl _
 | succ i ih=>rw[cM];split <;> omega
theorem rB(nm d:ByteArray)(a z:Nat)(L:List Tk):(ia nm d a z L).length<=L.length+1:=by
 unfold ia;split <;> simp
theorem uP(nm d:ByteArray)(i:Nat):(h9 nm d i).length<=i:=by
 induction i with
 | zero=>exact Nat.le_refl _
 | succ i ih =>
  rw[h9]
  split
  ·have:=rB nm d (cM d i) i (h9 nm d i);omega
  ·omega
theorem wD(nm d:ByteArray):(fS nm d).length<=d.size+2:=by
 unfold fS
 split
 ·next i h =>
  have:=List.mem_range.1 (List.mem_of_find?_eq_some h);have:=uP nm d i;simp;omega
 ·have:=rB nm d (cM d d.size) d.size (h9 nm d d.size)
  have:=uP nm d d.size;simp;omega
def pD(s u:ByteArray)(i:Nat):Bool:=((s.extract i (i+u.size)).toList==u.toList)
def ge(s u:ByteArray):Bool:=(List.range (s.size+1)).any (fun i=>decide (i+u.size<=s.size)&&pD s u i)
def Ac(t:ByteArray)(l:List UInt8):Bool:=(t.toList==l)
def bJ:Bool->List Tk->List Tk
 | _,[]=>[]
 | false,t :: r=>if Ac t.s [36,40]=true then bJ true r else t :: bJ false r
 | true,t :: r =>
  if(t.rule==0)=false then t :: bJ true r
  else if Ac t.s [36,41]=true then bJ false r
  else if Ac t.s []=true then⟨⟨#[]⟩,3,t.file,t.line,t.col⟩ :: bJ true r
  else if(ge t.s ⟨#[36,40]⟩||ge t.s ⟨#[36,41]⟩)=true then [⟨⟨#[]⟩,2,t.file,t.line,t.col⟩]
  else bJ true r
theorem FO(b:Bool)(L:List Tk):(bJ b L).length<=L.length:=by
 induction L generalizing b with
 | nil=>cases b <;> simp[bJ]
 | cons t L ih =>
  have h1:=ih true;have h2:=ih false
  cases b
  ·rw[bJ];split <;> simp <;> omega
  ·rw[bJ]
   repeat' split
   all_goals (simp;try omega)
def jM(w:World)(ao:Option Addr)(fs:Fs):Prop:=∀k,k<fs.length->∃g o,ao=some ⟨g,o,none⟩/\g<w.heap.size/\w.cell? ⟨g,o+k*2,none⟩=some (.string (aC fs k))/\w.cell? ⟨g,o+k*2+1,none⟩=some (.string (aj fs k))
theorem jM.kept{S:List Nat}{w w':World}{ao:Option Addr}{fs:Fs}(h:jM w ao fs)(k:ab S w w')(hb:∀ad,ao=some ad->ad.block∉S):jM w' ao fs:=by
 intro j hj;obtain⟨g,o,e,hg,c0,c1⟩:=h j hj;have q:∀i,w'.cell? ⟨g,i,none⟩=w.cell? ⟨g,i,none⟩:=fun i=>World.cell?_of_block (k.block g hg (hb _ e))
 exact⟨g,o,e,Nat.lt_of_lt_of_le hg k.size,by rw[q];exact c0,by rw[q];exact c1⟩
theorem IW(fs:Fs)(k:Nat)(h:k<fs.length):fs.take k++[(aC fs k,aj fs k)]=fs.take (k+1):=by
 rw[List.take_add_one,List.getElem?_eq_getElem h];unfold aC aj;rw[List.getD_eq_getElem?_getD,List.getElem?_eq_getElem h];rfl
def zQ(w:World)(v:Nat)(fs:Fs):World:=((((((((w.setCell ⟨v,0,none⟩ (.string (aC fs 0))).setCell ⟨v,1,none⟩ (.string (aj fs 0))).setCell ⟨v,2,none⟩ (.string (aC fs 1))).setCell ⟨v,3,none⟩ (.string (aj fs 1))).setCell ⟨v,4,none⟩ (.string (aC fs 2))).setCell ⟨v,5,none⟩ (.string (aj fs 2))).setCell ⟨v,6,none⟩ (.string (aC fs 3))).setCell ⟨v,7,none⟩ (.string (aj fs 3))).setCell ⟨v,8,none⟩ (.int .i64 fs.length)
theorem Ie(fs fs':Fs)(more:List Value):(((((((((mW fs++more).set 0 (.string (aC fs' 0))).set 1 (.string (aj fs' 0))).set 2 (.string (aC fs' 1))).set 3 (.string (aj fs' 1))).set 4 (.string (aC fs' 2))).set 5 (.string (aj fs' 2))).set 6 (.string (aC fs' 3))).set 7 (.string (aj fs' 3))).set 8 (.int .i64 fs'.length)=mW fs'++more:=rfl
theorem bm.over{w:World}{v t:Nat}{fs fs':Fs}{more:List Value}(h:bm w v t fs more)(hl:fs'.length<=4):bm (zQ w v fs') v t fs' more:=by
 refine⟨?_,hl⟩;unfold zQ;rw[ah (ah (ah (ah (ah (ah (ah (ah (ah h.1 0 _) 1 _) 2 _) 3 _) 4 _) 5 _) 6 _) 7 _) 8 _];simp only[List.setIfInBounds_toArray,Ie]
theorem BQ{S:List Nat}{w w':World}(h:ab S w w'){v:Nat}(hx:v∈S∨w.heap.size<=v)(fs:Fs):ab S w (zQ w' v fs) :=
 ((((((((h.setCell hx _).setCell hx _).setCell hx _).setCell hx _).setCell hx _).setCell hx _).setCell hx _).setCell hx _).setCell hx _
theorem bm.nine{w:World}{v t:Nat}{fs:Fs}{more:List Value}(h:bm w v t fs more) :
  w.cell? ⟨v,0,none⟩=some (.string (aC fs 0))/\w.cell? ⟨v,1,none⟩=some (.string (aj fs 0))/\w.cell? ⟨v,2,none⟩=some (.string (aC fs 1))/\w.cell? ⟨v,3,none⟩=some (.string (aj fs 1))/\w.cell? ⟨v,4,none⟩=some (.string (aC fs 2))/\w.cell? ⟨v,5,none⟩=some (.string (aj fs 2))/\w.cell? ⟨v,6,none⟩=some (.string (aC fs 3))/\w.cell? ⟨v,7,none⟩=some (.string (aj fs 3))/\w.cell? ⟨v,8,none⟩=some (.int .i64 fs.length):=by
 refine⟨?_,?_,?_,?_,?_,?_,?_,?_,?_⟩ <;> (rw[aa h.1];rfl)
set_option maxRecDepth 100000 in
theorem DU(v t:Nat)(fs0 fs:Fs)(more:List Value)(ao:Option Addr)(cap:Nat)(w:World)(h:bm w v t fs0 more)(hS:jM w ao fs)(hsz:ke fs) :
  Calls Tryz.prog 48 #[.pointer (some ⟨v,0,none⟩),.slice ao fs.length cap] w fun e w'=>e=.returned (.int .i64 (fZ fs))/\bm w' v t (js fs0 fs) more/\ab [v] w w':=by
 have HT:Hid (bm w v t fs0 more):=h
 by_cases h4:4<fs.length
 ·have HL:Hid (fZ fs=1):=by show _=_;unfold fZ;rw[if_pos h4]
  have HLL:=(show Hid _ from l6 (fs0:=fs0) HL.out (by decide));rw[HL.out];have h4i:(4:Int)<(fs.length:Int):=by omega
  clear h;go_enter Tryz.func48,Tryz.ntmps48;go_wp2;go_ret;exact⟨rfl,by rw[HLL.out];exact HT.out,ab.refl _ _⟩
 ·have HL:Hid (fZ fs=di (Ad fs) fs.length):=by show _=_;unfold fZ;rw[if_neg h4]
  obtain⟨r,Hr⟩:∃r,Hid (fZ fs=r):=⟨_,rfl⟩
  rw[Hr.out]at HL ⊢;have h4i:¬(4:Int)<(fs.length:Int):=by omega
  have HS:Hid (jM w ao fs):=hS;have HSZ:=(show Hid _ from hsz);have hvw:v<w.heap.size:=h.lt;obtain⟨W,HW⟩:∃W,Hid (w.alloc (.cells #[.string ⟨#[]⟩,.string ⟨#[]⟩,.string ⟨#[]⟩,.string ⟨#[]⟩,.string ⟨#[]⟩,.string ⟨#[]⟩,.string ⟨#[]⟩,.string ⟨#[]⟩,.int .i64 0] 73)=W):=⟨_,rfl⟩
  have HKW:Hid (ab [] w W):=by show ab _ _ _;rw[<-HW.out];exact(ab.refl [] _).alloc _
  have HTW:Hid (bm W w.heap.size 73 (fs.take 0) []):=by show bm _ _ _ _ _;rw[<-HW.out];exact⟨heap_alloc_new _ _,by simp⟩
  clear h hS hsz;go_enter Tryz.func48,Tryz.ntmps48
  go_upto_region 4 with fail
  rw[HW.out];go_wp2
  go_loopg [6] fs.length (fun g iv wr=>∃k:Nat,k<=fs.length/\g=fs.length-k/\iv=.int .i64 k/\Hid (di (Ad fs) k=0)/\Hid (bm wr w.heap.size 73 (fs.take k) [])/\Hid (ab [] w wr))
  case atStart=>exact⟨0,by omega,rfl,rfl,rfl,HTW,HKW⟩
  case round =>
   obtain⟨k,hk,hg,rfl,HZ,HTr,HK⟩:=hrel
   by_cases hlt:k<fs.length
   ·have hki:(k:Int)<(fs.length:Int):=by omega
    obtain⟨g0,o0,rfl,hg0,c0,c1⟩:=(jM.kept HS.out HK.out (by simp)) k hlt;have HC:Hid (∀w',ab [] wr w'->w'.cell? ⟨g0,o0+k*2,none⟩=some (.string (aC fs k))/\w'.cell? ⟨g0,o0+k*2+1,none⟩=some (.string (aj fs k))/\g0<w'.heap.size):=fun w' kw=>⟨by rw[World.cell?_of_block (kw.block g0 hg0 (by simp))];exact c0,by rw[World.cell?_of_block (kw.block g0 hg0 (by simp))];exact c1,Nat.lt_of_lt_of_le hg0 kw.size⟩
    have HFT:Hid (∀wx,Calls Tryz.prog 49 #[.string (aC fs k),.string (aj fs k)] wx fun e w'=>e=.returned (.int .i64 (cn (aC fs k) (aj fs k)))/\w'=wx):=fun wx=>lY _ _ wx (HSZ.out k).1 (by have:=(HSZ.out k).2;omega)
    have HFI:Hid (∀wx,bm wx w.heap.size 73 (fs.take k) []->Calls Tryz.prog 50 #[.pointer (some ⟨w.heap.size,0,none⟩),.string (aC fs k)] wx fun e w'=>e=.returned (.int .i64 (bu (fs.take k) (aC fs k)))/\w'=wx):=fun wx hx=>kl _ _ _ _ _ wx hx
    have hl:(fs.take k).length=k:=by rw[List.length_take];omega
    have HAD:Hid (∀wx,bm wx w.heap.size 73 (fs.take k) []->Calls Tryz.prog 51 #[.pointer (some ⟨w.heap.size,0,none⟩),.agg #[.string (aC fs k),.string (aj fs k)]] wx fun e w'=>e=.returned (.tuple #[])/\bm w' w.heap.size 73 (fs.take (k+1)) []/\ab [w.heap.size] wx w'):=fun wx hx=>by
     rw[<-IW fs k hlt];exact Cq _ _ _ _ _ _ wx hx (by rw[hl];omega)
    have HE:Hid (Ad fs k=if(cn (aC fs k) (aj fs k)==0)=false then cn (aC fs k) (aj fs k) else if 0<=bu (fs.take k) (aC fs k) then 4 else 0):=rfl;have HST:Hid ((Ad fs k==0)=false->r=Ad fs k):=fun q=>by rw[HL.out];exact mA HZ.out q hlt
    have HGO:Hid (Ad fs k=0->di (Ad fs) (k+1)=0):=fun q=>by rw[di,HZ.out];exact q
    clear hl;generalize aC fs k=nm at *;generalize aj fs k=dt at *;obtain⟨ck,Hck⟩:∃ck,Hid (cn nm dt=ck):=⟨_,rfl⟩
    rw[Hck.out]at HFT HE;obtain⟨fi,Hfi⟩:∃fi,Hid (bu (fs.take k) nm=fi):=⟨_,rfl⟩
    rw[Hfi.out]at HFI HE
    go_upto_region 7 with fail
    go_region_with (go_at_call 49;refine(HFT.out _).mono ?_;rintro e w9 ⟨rfl,hw9⟩)
    all_goals
     subst hw9;obtain⟨w9,H9⟩:∃w9,Hid (wr.drew=w9):=⟨_,rfl⟩
     rw[H9.out];have HK9:Hid (ab [] wr w9):=by show ab _ _ _;rw[<-H9.out];exact(ab.refl [] wr).drew
     clear c0 c1 hg0
     cases hck:(ck==0)
     ·rw[hck,if_pos rfl]at HE
      have HX:=(show Hid _ from HST.out (by rw[HE.out];exact hck));rw[HE.out]at HX;have hcn:(ck != 0)=true:=by unfold bne;rw[hck];rfl
      go_wp2;go_ret;exact⟨am HX.out.symm,by rw[l6 (Hr.out.trans HX.out) (fun q=>by rw[q]at hck;cases hck)];exact bm.kept HT.out (HK.out.trans HK9.out) (by simp),(HK.out.trans HK9.out).mono (by simp)⟩
     ·rw[hck,if_neg (by simp)]at HE
      have hcn:(ck != 0)=false:=by unfold bne;rw[hck];rfl
      obtain⟨d0,d1,d2⟩:=HC.out w9 HK9.out;have HT9:Hid (bm w9 w.heap.size 73 (fs.take k) []):=bm.kept HTr.out HK9.out (by simp)
      by_cases hfi:0<=fi
      ·rw[if_pos hfi]at HE
       have HX:=(show Hid _ from HST.out (by rw[HE.out];rfl));rw[HE.out]at HX;go_wp2_with (go_at_call 50;refine(HFI.out _ HT9.out).mono ?_;rintro e w8 ⟨rfl,hw8⟩;rw[hw8];clear hw8);go_ret;exact⟨am HX.out.symm,by rw[l6 (Hr.out.trans HX.out) (by decide)];exact bm.kept HT.out (HK.out.trans HK9.out) (by simp),(HK.out.trans HK9.out).mono (by simp)⟩
      ·rw[if_neg hfi]at HE
       have HM:=(show Hid _ from HGO.out HE.out)
       go_upto_region 12 with (go_at_call 50;refine(HFI.out _ HT9.out).mono ?_;rintro e w8 ⟨rfl,hw8⟩;rw[hw8];clear hw8)
       go_wp2_with (go_at_call 51;refine(HAD.out _ HT9.out).mono ?_;rintro e w8 ⟨rfl,ht8,hk8⟩)
       go_roundg (fs.length-(k+1))
       case measure=>omega
       case rel=>exact⟨k+1,by omega,rfl,by go_num,HM,ht8,((HK.out.trans HK9.out).mono (S':=[w.heap.size]) (by simp)).trans hk8 |>.mono (fun q hq hlt=>by simp at hq;omega)⟩
   ·have e:k=fs.length:=by omega
    subst e;have HX:Hid (r=0):=by show _=_;rw[HL.out];exact HZ.out
    have hnn:¬(fs.length:Int)<(fs.length:Int):=by omega
    rw[List.take_length]at HTr;obtain⟨q0,q1,q2,q3,q4,q5,q6,q7,q8⟩:=bm.nine HTr.out;have hzB:=bm.lt HTr.out;have HTv:Hid (bm wr v t fs0 more):=bm.kept HT.out HK.out (by simp);obtain⟨p0,p1,p2,p3,p4,p5,p6,p7,p8⟩:=bm.nine HTv.out;have hfr:=bm.free HTv.out;have hzv:=bm.lt HTv.out;have HTN:Hid (bm (zQ wr v fs) v t fs more):=bm.over HTv.out (by omega);unfold zQ at HTN;have HX0:=(show Hid _ from vW (fs0:=fs0) (Hr.out.trans HX.out));go_wp2;go_ret;exact⟨am HX.out.symm,by rw[HX0.out];exact HTN.out,BQ (HK.out.mono (by simp)) (Or.inl (by simp)) _⟩
theorem wt(x:Nat)(fs0 fs:Fs)(ao:Option Addr)(cap:Nat)(w:World)(h:bW w x fs0)(hS:jM w ao fs)(hsz:ke fs) :
  Calls Tryz.prog 30 #[.pointer (some ⟨x,0,none⟩),.slice ao fs.length cap] w fun e w'=>e=.returned (.int .i64 (fZ fs))/\bW w' x (js fs0 fs)/\ab [x] w w':=by
 obtain⟨rep,a,b,c,h⟩:=h;have HPF:=(show Hid _ from DU x 80 fs0 fs [.bool rep,a,b,c] ao cap w h hS hsz);generalize fZ fs=e0 at *;generalize js fs0 fs=fs' at *
 cases he:(e0==0)
 ·go_enter Tryz.func30,Tryz.ntmps30
  go_wp2_with (go_at_call 48;refine Calls.mono HPF.out ?_;rintro e w2 ⟨rfl,h2,hk2⟩);go_ret;exact⟨rfl,⟨rep,a,b,c,h2⟩,hk2⟩
 ·go_enter Tryz.func30,Tryz.ntmps30
  go_upto_region 3 with (go_at_call 48;refine Calls.mono HPF.out ?_;rintro e w2 ⟨rfl,h2,hk2⟩)
  go_wp2_with (go_at_call 33;refine(tB x fs' w2 ⟨rep,a,b,c,h2⟩).mono ?_;rintro e w3 ⟨rfl,h3,hk3⟩);go_ret;exact⟨rfl,h3.anyR,hk2.trans hk3⟩
theorem zW(x:Nat)(fs:Fs)(n:ByteArray)(w:World)(h:bW w x fs)(hf:bu fs n<0) :
  Calls Tryz.prog 36 #[.pointer (some ⟨x,0,none⟩),.string n] w fun e w'=>e=.returned (.tuple #[.agg #[.int .i64 0,.string ⟨#[]⟩,.int .i64 0,.int .i64 0],.int .i64 5])/\bW w' x fs/\ab [x] w w':=by
 have hxw:=h.lt;obtain⟨W,HW⟩:∃W,Hid (w.alloc (.cells #[.int .i64 0,.string ⟨#[]⟩,.int .i64 0,.int .i64 0] 87)=W):=⟨_,rfl⟩
 have HK:Hid (ab [] w W):=by show ab _ _ _;rw[<-HW.out];exact(ab.refl [] _).alloc _
 have hF:W.heap[w.heap.size]?=some (.cells #[.int .i64 0,.string ⟨#[]⟩,.int .i64 0,.int .i64 0] 87 (0,0)):=by rw[<-HW.out];exact heap_alloc_new _ _
 have hV:=h.kept HK.out (by simp);have HV:Hid (bW W x fs):=hV;obtain⟨f0,Hf0⟩:∃f0,Hid (bu fs n=f0):=⟨_,rfl⟩
 rw[Hf0.out]at hf
 have HFA:Hid (Calls Tryz.prog 50 #[.pointer (some ⟨x,0,none⟩),.string n] W fun e w'=>e=.returned (.int .i64 f0)/\w'=W):=by
  show Calls _ _ _ _ _
  obtain⟨rep,a,b,c,hv⟩:=hV;rw[<-Hf0.out];exact kl x _ fs _ n W hv
 have z0:W.cell? ⟨w.heap.size,0,none⟩=some (.int .i64 0):=by rw[aa hF];rfl
 have z1:W.cell? ⟨w.heap.size,1,none⟩=some (.string ⟨#[]⟩):=by rw[aa hF];rfl
 have z2:W.cell? ⟨w.heap.size,2,none⟩=some (.int .i64 0):=by rw[aa hF];rfl
 have z3:W.cell? ⟨w.heap.size,3,none⟩=some (.int .i64 0):=by rw[aa hF];rfl
 have yf:=ak hF;have hFw:=ae hF;have HKS:Hid (∀u0 u1 u2 u3,ab [] w ((((W.setCell ⟨w.heap.size,0,none⟩ u0).setCell ⟨w.heap.size,1,none⟩ u1).setCell ⟨w.heap.size,2,none⟩ u2).setCell ⟨w.heap.size,3,none⟩ u3)):=fun u0 u1 u2 u3=>(((HK.out.setCell (Or.inr (Nat.le_refl _)) _).setCell (Or.inr (Nat.le_refl _)) _).setCell (Or.inr (Nat.le_refl _)) _).setCell (Or.inr (Nat.le_refl _)) _
 have HS:=(show Hid (bW w x fs) from h);clear h hV hF HK;go_enter Tryz.func36,Tryz.ntmps36
 go_upto_region 1 with fail
 rw[HW.out];go_wp2_with (go_at_call 50;refine Calls.mono HFA.out ?_;rintro e w9 ⟨rfl,hw9⟩;rw[hw9];clear hw9);exact bodyPost_ret (v:=.tuple #[.agg #[.int .i64 0,.string ⟨#[]⟩,.int .i64 0,.int .i64 0],.int .i64 5]) (by simp[results,Tryz.results36,go_sem,z0,z1,z2,z3]) rfl ⟨rfl,bW.kept HS.out (HKS.out _ _ _ _) (by simp),(HKS.out _ _ _ _).mono (by simp)⟩
def qC(c:Int):Prop:=-9223372036854775808<=c/\c<=9223372036854775807
def f8(c:Int)(n:Nat):Nat:=((if c<0 then -(c+1) else c).tmod n).toNat
theorem ju(c:Int)(n:Nat)(hn:1<=n):f8 c n<n:=by
 unfold f8
 split
 ·have h1:0<=(-(c+1)).tmod n/\(-(c+1)).tmod n<n:=⟨Int.tmod_nonneg _ (by omega),Int.tmod_lt_of_pos _ (by omega)⟩
  omega
 ·have h1:0<=c.tmod n/\c.tmod n<n:=⟨Int.tmod_nonneg _ (by omega),Int.tmod_lt_of_pos _ (by omega)⟩
  omega
theorem ij(c:Int)(n:Nat)(w:World)(hc:qC c)(hn:1<=n/\n<=4294967296) :
  Calls Tryz.prog 12 #[.int .i64 c,.int .i64 n] w fun e w'=>e=.returned (.int .i64 (f8 c n:Nat))/\w'=w:=by
 obtain⟨hc1,hc2⟩:=hc;have hn1:(1:Int)<=(n:Int):=by omega
 have hn2:(n:Int)<=4294967296:=by omega
 have hnz:((n:Int)==0)=false:=beq_eq_false_iff_ne.2 (by omega)
 by_cases h0:c<0
 ·have h1:0<=(-(c+1)).tmod n/\(-(c+1)).tmod n<n:=⟨Int.tmod_nonneg _ (by omega),Int.tmod_lt_of_pos _ (by omega)⟩
  have H1:=(show Hid _ from h1);have HP:Hid (f8 c n=((-(c+1)).tmod n).toNat):=by show _=_;unfold f8;rw[if_pos h0]
  clear h1;go_enter Tryz.func12,Tryz.ntmps12;go_wp2
  all_goals go_ret
  all_goals
   have h1:=H1.out;refine⟨am ?_,rfl⟩;rw[HP.out]
   first | (simp only[Int.neg_tmod]at *;omega) | (rw[Int.toNat_of_nonneg h1.1])
 ·have h1:0<=c.tmod n/\c.tmod n<n:=⟨Int.tmod_nonneg _ (by omega),Int.tmod_lt_of_pos _ (by omega)⟩
  have h2:c.tmod n=c % n:=Int.tmod_eq_emod_of_nonneg (by omega);have H1:=(show Hid _ from h1);have H2:=(show Hid _ from h2);have HP:Hid (f8 c n=(c.tmod n).toNat):=by show _=_;unfold f8;rw[if_neg h0]
  clear h1 h2;go_enter Tryz.func12,Tryz.ntmps12;go_wp2
  all_goals go_ret
  all_goals
   have h1:=H1.out;have h2:=H2.out;refine⟨am ?_,rfl⟩;rw[HP.out]
   first | (rw[Int.toNat_of_nonneg h1.1];done) | (rw[Int.toNat_of_nonneg h1.1,h2])
theorem lT(ao bo:Option Addr)(ca cb:Nat)(fs:Fs)(w:World)(ha:jM w ao fs)(hb:jM w bo fs)(hl:fs.length<=4294967296) :
  Calls Tryz.prog 26 #[.slice ao fs.length ca,.slice bo fs.length cb] w fun e w'=>e=.returned (.bool true)/\∃n,w'=w.drewN n:=by
 have HA:Hid (jM w ao fs):=ha;have HB:Hid (jM w bo fs):=hb;clear ha hb;go_enter Tryz.func26,Tryz.ntmps26;go_wp2
 go_loopg [5] fs.length (fun g i wr=>∃k:Nat,k<=fs.length/\g=fs.length-k/\i=.int .i64 k/\Hid (∃n,wr=w.drewN n))
 case atStart=>exact⟨0,by omega,by omega,rfl,0,rfl⟩
 case round =>
  obtain⟨k,hk,hg,rfl,HW⟩:=hrel;have HK:Hid (ab [] w wr):=by show ab _ _ _;obtain⟨n,e⟩:=HW.out;rw[e];exact(ab.refl [] w).drewN n
  by_cases hlt:k<fs.length
  ·have hki:(k:Int)<(fs.length:Int):=by omega
   obtain⟨g1,o1,rfl,h1,c0,c1⟩:=(jM.kept HA.out HK.out (by simp)) k hlt;obtain⟨g2,o2,rfl,h2,d0,d1⟩:=(jM.kept HB.out HK.out (by simp)) k hlt;generalize aC fs k=nm at *;generalize aj fs k=dt at *
   go_upto_region 6 with fail
   go_quiet (fail)
   have HW2:Hid (∃n,wr.drewN nq=w.drewN n):=by show ∃_,_;obtain⟨n,e⟩:=HW.out;exact⟨n+nq,by rw[e,World.drewN_drewN]⟩
   go_wp2
   go_roundg (fs.length-(k+1))
   case measure=>omega
   case rel=>exact⟨k+1,by omega,rfl,by go_num,HW2⟩
  ·have hnn:¬(k:Int)<(fs.length:Int):=by omega
   go_wp2;go_ret;exact⟨rfl,HW.out⟩
theorem As{P:Program}(w:World)(dT sT ty:TypeId)(g cap c n:Nat)(ao:Option Addr)(r:dK)(cur:Array Value)(t:TypeId)
  (hu:P.underlying dT=some (.slice r.e)) (hs:(P.info? r.e).map (·.size)=some r.size) (hg:w.heap[g]?=some (.cells cur t (0,0))) (hn:r.n=n) (hl:r.xs.length=r.n*r.size) (h0:ao=none->r.xs=[]) (hc:∀ad,ao=some ad->∀j v,r.xs[j]?=some v->w.cell? (ad.add j)=some v) (hsz:cur.size=r.n*r.size) (h1:∀v∈r.xs,v.oneCell'=true) :
  ∃w',(Builtin.copy_ #[dT,sT] ty #[.slice (some ⟨g,0,none⟩) n cap,.slice ao n c]).run P w=.ok (goInt n) w'/\w'.heap[g]?=some (.cells r.xs.toArray t (0,0))/\ab [g] w w'/\w'.heap.size=w.heap.size:=by
 subst hn;refine⟨w.setRow g r.xs.toArray,?_,setRow_heap w g _ _ t _ hg,rO (ab.refl _ _) (Or.inl (by simp)) _,by simp[World.setRow]⟩;have hst:=run_storeCells_at P g 0 t r.xs 0 cur w hg (by simp;omega) h1
 have e0:(cur.toList.take (0+0)++r.xs++cur.toList.drop (0+0+r.xs.length))=r.xs:=by
  simp;omega
 rw[e0]at hst
 have hfc:(Builtin.firstCells r.size r.n (.slice ao r.n c)).run P w=.ok r.xs.toArray w:=by
  cases ao with
  | none=>rw[h0 rfl];exact run_firstCells_none w _ _ _ _
  | some ad=>exact run_firstCells_some w r.size r.n ad r.n c r.xs hl (hc ad rfl)
 cases hq:P.info? r.e with
 | none=>simp[hq]at hs
 | some i =>
  have hi:i.size=r.size:=by simpa [hq] using hs
  simp[Builtin.copy_,run_underlying hu,Builtin.lenOf,sizeOf,typeInfo,hq,hi,hfc,hst]
theorem jM.cells{w:World}{ao:Option Addr}{fs:Fs}(h:jM w ao fs):(ao=none->oD fs=[])/\∀ad,ao=some ad->∀j v,(oD fs)[j]?=some v->w.cell? (ad.add j)=some v:=by
 refine⟨fun e=>?_,fun ad e j v hv=>?_⟩
 ·cases fs with
  | nil=>rfl
  | cons a L=>obtain⟨g,o,e2,-⟩:=h 0 (by simp);rw[e]at e2;cases e2
 ·have hl:j<fs.length*2:=by
   rw[<-sD];exact(List.getElem?_eq_some_iff.1 hv).1
  obtain⟨g,o,e2,-,c0,c1⟩:=h (j / 2) (by omega);rw[e]at e2
  cases e2
  obtain⟨f0,f1⟩:=tH fs (j / 2) (by omega);have ea:(⟨g,o,none⟩:Addr).add j=⟨g,o+j,none⟩:=by simp[Addr.add]
  rw[ea]
  rcases Nat.mod_two_eq_zero_or_one j with e | e
  ·rw[show o+j / 2*2=o+j by omega]at c0
   rw[show j / 2*2=j by omega]at f0;rw[f0]at hv;rw[c0,<-hv]
  ·rw[show o+j / 2*2+1=o+j by omega]at c1
   rw[show j / 2*2+1=j by omega]at f1;rw[f1]at hv;rw[c1,<-hv]
theorem iE(ao:Option Addr)(c:Nat)(fs:Fs)(w:World)(ha:jM w ao fs)(hl:fs.length<=1073741824) :
  Calls Tryz.prog 29 #[.slice ao fs.length c] w fun e w'=>e=.returned (.slice (some ⟨w.heap.size,0,none⟩) fs.length fs.length)/\w'.heap[w.heap.size]?=some (.cells (oD fs).toArray 68 (0,0))/\ab [] w w':=by
 obtain⟨i0,hi,hz0,hz1,hz2⟩:=info_parts xc;have m1:=fun w=>dn (P:=Tryz.prog) w 33 68 i0 _ Tryz.underlying33 hi hz0 fs.length 2 hz1 (by rw[hz2];omega) (by omega)
 obtain⟨mc1,hmc1⟩:∃mc,mc=madeCells (Value.agg #[.string ⟨#[]⟩,.string ⟨#[]⟩]).cells (fs.length*2):=⟨_,rfl⟩
 have z1:mc1.size=fs.length*2:=by rw[hmc1,size_madeCells]
 rw[<-hmc1]at m1;clear hmc1;obtain⟨W,HW⟩:∃W,Hid (w.alloc (.cells mc1 68)=W):=⟨_,rfl⟩
 have kW:ab [] w W:=by rw[<-HW.out];exact(ab.refl [] _).alloc _
 have GW:W.heap[w.heap.size]?=some (.cells mc1 68 (0,0)):=by rw[<-HW.out];exact heap_alloc_new _ _
 have Hsz1:(Tryz.prog.info? (b8 fs).e).map (·.size)=some (b8 fs).size:=by simp[b8,hi,hz1]
 have hS:=(ha.kept kW (by simp)).cells;obtain⟨w3,cp1,hg3,hk3,hz3⟩:=As (P:=Tryz.prog) W 33 33 3 w.heap.size fs.length c fs.length ao (b8 fs) mc1 68 Tryz.underlying33 Hsz1 GW rfl (sD fs) hS.1 hS.2 z1 (CC fs);have HG3:Hid (w3.heap[w.heap.size]?=some (.cells (oD fs).toArray 68 (0,0))):=hg3;have HK3:Hid (ab [] w w3):=((kW.mono (S':=[w.heap.size]) (by simp)).trans hk3).mono (by simp);clear ha kW GW hS Hsz1 hg3 hk3 hz3 z1;go_enter Tryz.func29,Tryz.ntmps29
 go_upto_region 2 with fail
 rw[HW.out];go_wp2;go_ret;exact⟨rfl,HG3.out,HK3.out⟩
end Go.Proofs.YtpddjjabfbfifaaGreat
