import Derived.Test.YtlbhbocbakijbaaGreatG03
namespace Go.Proofs.YtlbhbocbakijbaaGreat
open Go.RowKit
set_option maxHeartbeats 0
def i8(n:Int):Bool:=(decide (97<=n)&&decide (n<=122))||(decide (65<=n)&&decide (n<=90))||(decide (48<=n)&&decide (n<=57))||n==45||n==95||n==46
def iz(s:ByteArray):Bool:=(List.range s.size).all (fun i=>i8 (aw s i))
theorem jO(n:Int)(w:World) :
  Calls Tryz.prog 188 #[.int .u8 n] w fun e w'=>e=.returned (.bool (i8 n))/\w'=w:=by
 by_cases h1:(97<=n/\n<=122)∨(65<=n/\n<=90)∨(48<=n/\n<=57)
 ·have HL:Hid (i8 n=true):=by show i8 n=true;simp only[i8,Bool.or_eq_true,Bool.and_eq_true,decide_eq_true_eq];omega
  rcases h1 with h1 | h1 | h1
  all_goals
   go_enter Tryz.func188,Tryz.ntmps188;go_wp2;go_ret;exact⟨GQ HL.out.symm,rfl⟩
 ·have HL:Hid (i8 n=(n==45||n==95||n==46)):=by
   show i8 n=_
   have e1:(decide (97<=n)&&decide (n<=122))=false:=by simp;omega
   have e2:(decide (65<=n)&&decide (n<=90))=false:=by simp;omega
   have e3:(decide (48<=n)&&decide (n<=57))=false:=by simp;omega
   simp only[i8,e1,e2,e3,Bool.false_or]
  go_enter Tryz.func188,Tryz.ntmps188;go_wp2
  all_goals go_ret
  all_goals (refine⟨GQ ?_,rfl⟩;first | rfl | (rw[HL.out];done) | (rw[HL.out];simp[*];done))
theorem E8{n:Nat}{p:Nat->Bool}(i:Nat)(h:i<n)(hp:p i=false):(List.range n).all p=false:=by
 rw[List.all_eq_false];exact⟨i,by simpa using h,by simp[hp]⟩
theorem DD{n:Nat}{p:Nat->Bool}(h:∀i,i<n->p i=true):(List.range n).all p=true:=by
 rw[List.all_eq_true];intro i hi;exact h i (by simpa using hi)
theorem iU(s:ByteArray)(w:World)(hs:s.size<=1073741824) :
  Calls Tryz.prog 176 #[.string s] w fun e w'=>e=.returned (.bool (iz s))/\w'=w:=by
 go_enter Tryz.func176,Tryz.ntmps176;go_wp2
 go_loopg [3] s.size (fun g i wr=>∃k:Nat,k<=s.size/\g=s.size-k/\i=.int .i64 k/\Hid (∀i,i<k->i8 (aw s i)=true)/\wr=w)
 case atStart=>exact⟨0,by omega,by omega,rfl,fun i h=>by omega,rfl⟩
 case round =>
  obtain⟨k,hk,hg,rfl,hall,rfl⟩:=hrel
  by_cases hlt:k<s.size
  ·cases hb:i8 (s[k].toNat:Int)
   ·have HY:Hid (iz s=false):=E8 k hlt (by rw[aU s k hlt];exact hb)
    go_wp2_with fail;refine(jO _ _).mono ?_;rintro e w1 ⟨rfl,rfl⟩;go_wp2;go_ret;exact⟨GQ HY.out.symm,rfl⟩
   ·go_wp2_with fail
    refine(jO _ _).mono ?_;rintro e w1 ⟨rfl,rfl⟩;go_wp2
    go_roundg (s.size-(k+1))
    case measure=>omega
    case rel =>
     refine⟨k+1,by omega,rfl,by go_num,?_,rfl⟩;intro i hi
     by_cases e:i=k
     ·subst e;rw[aU s i hlt];exact hb
     ·exact hall.out i (by omega)
  ·have HY:Hid (iz s=true):=DD (fun i hi=>hall.out i (by omega))
   go_wp2;go_ret;exact⟨GQ HY.out.symm,rfl⟩
theorem gc(b t o:Nat)(pre post:List Value)(d:Db)(H:Nat->Hd)(x:ByteArray)(w:World)(h:aE w b t pre post d H)(ho:pre.length=o)(hl:d.active.length<=1073741824) :
  Calls Tryz.prog 182 #[.pointer (some ⟨b,o,none⟩),.string x] w fun e w'=>e=.returned (.bool (aZ d.active x))/\w'=w:=by
 obtain⟨q0,q1,q2,q3,q4,q5,q6,q7,q8,q9,q10,q11,q12⟩:=h.cells o ho;go_enter Tryz.func182,Tryz.ntmps182;go_wp2_with fail;refine(cV (H 3) d.active x _ (by exact h.own 3) hl).mono ?_;rintro e w1 ⟨rfl,rfl⟩;go_wp2;go_ret;exact⟨rfl,rfl⟩
theorem iy(b t o:Nat)(pre post:List Value)(d:Db)(H:Nat->Hd)(x:ByteArray)(w:World)(h:aE w b t pre post d H)(ho:pre.length=o)(hl:d.constants.length<=1073741824) :
  Calls Tryz.prog 183 #[.pointer (some ⟨b,o,none⟩),.string x] w fun e w'=>e=.returned (.bool (aZ d.constants x))/\w'=w:=by
 obtain⟨q0,q1,q2,q3,q4,q5,q6,q7,q8,q9,q10,q11,q12⟩:=h.cells o ho;go_enter Tryz.func183,Tryz.ntmps183;go_wp2_with fail;refine(cV (H 1) d.constants x _ (by exact h.own 1) hl).mono ?_;rintro e w1 ⟨rfl,rfl⟩;go_wp2;go_ret;exact⟨rfl,rfl⟩
theorem iV(b t o:Nat)(pre post:List Value)(d:Db)(H:Nat->Hd)(x:ByteArray)(w:World)(h:aE w b t pre post d H)(ho:pre.length=o)(hl:d.typed.length<=1073741824) :
  Calls Tryz.prog 184 #[.pointer (some ⟨b,o,none⟩),.string x] w fun e w'=>e=.returned (.bool (aZ d.typed x))/\w'=w:=by
 obtain⟨q0,q1,q2,q3,q4,q5,q6,q7,q8,q9,q10,q11,q12⟩:=h.cells o ho;go_enter Tryz.func184,Tryz.ntmps184;go_wp2_with fail;refine(cV (H 4) d.typed x _ (by exact h.own 4) hl).mono ?_;rintro e w1 ⟨rfl,rfl⟩;go_wp2;go_ret;exact⟨rfl,rfl⟩
def df(d:Db)(x:ByteArray):Bool:=aZ d.labels x||aZ d.constants x||aZ d.variables x
def du(d:Db)(x:ByteArray):Bool:=aZ d.labels x||aZ d.constants x||aZ d.active x
theorem gY(b t o:Nat)(pre post:List Value)(d:Db)(H:Nat->Hd)(x:ByteArray)(w:World)(h:aE w b t pre post d H)(ho:pre.length=o)(hs:dF d 1073741824) :
  Calls Tryz.prog 164 #[.pointer (some ⟨b,o,none⟩),.string x] w fun e w'=>e=.returned (.bool (df d x))/\w'=w:=by
 obtain⟨q0,q1,q2,q3,q4,q5,q6,q7,q8,q9,q10,q11,q12⟩:=h.cells o ho
 cases h1:aZ d.labels x
 ·cases h2:aZ d.constants x
  ·have HT:Hid (df d x=aZ d.variables x):=by show df d x=_;simp[df,h1,h2]
   go_enter Tryz.func164,Tryz.ntmps164;go_wp2_with fail;refine(cV (H 0) d.labels x _ (by exact h.own 0) hs.labels).mono ?_;rintro e w1 ⟨rfl,rfl⟩;go_wp2_with fail;refine(cV (H 1) d.constants x _ (by exact h.own 1) hs.constants).mono ?_;rintro e w1 ⟨rfl,rfl⟩;go_wp2_with fail;refine(cV (H 2) d.variables x _ (by exact h.own 2) hs.variables).mono ?_;rintro e w1 ⟨rfl,rfl⟩;go_wp2;go_ret;exact⟨GQ (by rw[HT.out]),rfl⟩
  ·have HT:Hid (df d x=true):=by show df d x=_;simp[df,h1,h2]
   go_enter Tryz.func164,Tryz.ntmps164;go_wp2_with fail;refine(cV (H 0) d.labels x _ (by exact h.own 0) hs.labels).mono ?_;rintro e w1 ⟨rfl,rfl⟩;go_wp2_with fail;refine(cV (H 1) d.constants x _ (by exact h.own 1) hs.constants).mono ?_;rintro e w1 ⟨rfl,rfl⟩;go_wp2;go_ret;exact⟨GQ (by rw[HT.out]),rfl⟩
 ·have HT:Hid (df d x=true):=by show df d x=_;simp[df,h1]
  go_enter Tryz.func164,Tryz.ntmps164;go_wp2_with fail;refine(cV (H 0) d.labels x _ (by exact h.own 0) hs.labels).mono ?_;rintro e w1 ⟨rfl,rfl⟩;go_wp2;go_ret;exact⟨GQ (by rw[HT.out]),rfl⟩
theorem sC(b t o:Nat)(pre post:List Value)(d:Db)(H:Nat->Hd)(x:ByteArray)(w:World)(h:aE w b t pre post d H)(ho:pre.length=o)(hs:dF d 1073741824) :
  Calls Tryz.prog 165 #[.pointer (some ⟨b,o,none⟩),.string x] w fun e w'=>e=.returned (.bool (du d x))/\w'=w:=by
 obtain⟨q0,q1,q2,q3,q4,q5,q6,q7,q8,q9,q10,q11,q12⟩:=h.cells o ho
 cases h1:aZ d.labels x
 ·cases h2:aZ d.constants x
  ·have HT:Hid (du d x=aZ d.active x):=by show du d x=_;simp[du,h1,h2]
   go_enter Tryz.func165,Tryz.ntmps165;go_wp2_with fail;refine(cV (H 0) d.labels x _ (by exact h.own 0) hs.labels).mono ?_;rintro e w1 ⟨rfl,rfl⟩;go_wp2_with fail;refine(cV (H 1) d.constants x _ (by exact h.own 1) hs.constants).mono ?_;rintro e w1 ⟨rfl,rfl⟩;go_wp2_with fail;refine(cV (H 3) d.active x _ (by exact h.own 3) hs.active).mono ?_;rintro e w1 ⟨rfl,rfl⟩;go_wp2;go_ret;exact⟨GQ (by rw[HT.out]),rfl⟩
  ·have HT:Hid (du d x=true):=by show du d x=_;simp[du,h1,h2]
   go_enter Tryz.func165,Tryz.ntmps165;go_wp2_with fail;refine(cV (H 0) d.labels x _ (by exact h.own 0) hs.labels).mono ?_;rintro e w1 ⟨rfl,rfl⟩;go_wp2_with fail;refine(cV (H 1) d.constants x _ (by exact h.own 1) hs.constants).mono ?_;rintro e w1 ⟨rfl,rfl⟩;go_wp2;go_ret;exact⟨GQ (by rw[HT.out]),rfl⟩
 ·have HT:Hid (du d x=true):=by show du d x=_;simp[du,h1]
  go_enter Tryz.func165,Tryz.ntmps165;go_wp2_with fail;refine(cV (H 0) d.labels x _ (by exact h.own 0) hs.labels).mono ?_;rintro e w1 ⟨rfl,rfl⟩;go_wp2;go_ret;exact⟨GQ (by rw[HT.out]),rfl⟩
theorem gX(b t o:Nat)(pre post:List Value)(d:Db)(H:Nat->Hd)(w:World)(h:aE w b t pre post d H)(ho:pre.length=o) :
  Calls Tryz.prog 123 #[.pointer (some ⟨b,o,none⟩)] w fun e w'=>e=.returned (.bool (decide (0<d.blocks.length)))/\w'=w:=by
 obtain⟨q0,q1,q2,q3,q4,q5,q6,q7,q8,q9,q10,q11,q12⟩:=h.cells o ho;go_enter Tryz.func123,Tryz.ntmps123;go_wp2;go_ret;exact⟨rfl,rfl⟩
def eF(d:Db):Bool:=d.kind != 0||decide (0<d.blocks.length)
theorem mE(b t o:Nat)(pre post:List Value)(d:Db)(H:Nat->Hd)(w:World)(h:aE w b t pre post d H)(ho:pre.length=o) :
  Calls Tryz.prog 106 #[.pointer (some ⟨b,o,none⟩)] w fun e w'=>e=.returned (.bool (eF d))/\w'=w:=by
 obtain⟨q0,q1,q2,q3,q4,q5,q6,q7,q8,q9,q10,q11,q12⟩:=h.cells o ho
 cases hk:(d.kind != 0)
 ·have HT:Hid (eF d=decide (0<d.blocks.length)):=by show eF d=_;simp only[eF,hk,Bool.false_or]
  go_enter Tryz.func106,Tryz.ntmps106;go_wp2_with fail;refine(gX b t o pre post d H _ h ho).mono ?_;rintro e w1 ⟨rfl,rfl⟩;go_wp2;go_ret;exact⟨GQ (by rw[HT.out]),rfl⟩
 ·have HT:Hid (eF d=true):=by show eF d=_;simp only[eF,hk,Bool.true_or]
  go_enter Tryz.func106,Tryz.ntmps106;go_wp2_with fail;go_ret;exact⟨GQ (by rw[HT.out]),rfl⟩
def dX(d:Db):Int:=if(d.kind==1)=true∨(d.kind==2)=true then 2 else 1
theorem nh(b t o:Nat)(pre post:List Value)(d:Db)(H:Nat->Hd)(w:World)(h:aE w b t pre post d H)(ho:pre.length=o) :
  Calls Tryz.prog 161 #[.pointer (some ⟨b,o,none⟩)] w fun e w'=>e=.returned (.int .i64 (dX d))/\w'=w:=by
 obtain⟨q0,q1,q2,q3,q4,q5,q6,q7,q8,q9,q10,q11,q12⟩:=h.cells o ho
 cases h4:(d.kind==1)
 ·cases h5:(d.kind==2)
  all_goals
   have HT:Hid (dX d=if(d.kind==1)=true∨(d.kind==2)=true then 2 else 1):=rfl;go_enter Tryz.func161,Tryz.ntmps161;go_wp2;go_ret;exact⟨ar (by rw[HT.out,h4,h5];simp),rfl⟩
 ·have HT:Hid (dX d=2):=by show dX d=_;simp only[dX,h4];simp
  go_enter Tryz.func161,Tryz.ntmps161;go_wp2;go_ret;exact⟨ar (by rw[HT.out]),rfl⟩
theorem y8(hd:Hd)(l:List ByteArray)(c:Nat)(w:World)(ho:au w hd (am l))(hc:c<=1073741824) :
  Calls Tryz.prog 175 #[.slice hd.ao l.length hd.cap,.int .i64 c] w fun e w'=>e=.returned (.slice hd.ao (if c<=l.length then c else l.length) hd.cap)/\w'=w:=by
 obtain⟨ao,cap⟩:=hd
 by_cases hle:c<=l.length
 ·rcases ho.ways with ⟨e0,h0,_⟩ | ⟨g,cur,e1,e2,e3,e4,_⟩
  ·have h0':l.length=0:=h0
   have hc0:c=0:=by omega
   subst hc0
   injection e0 with e0 e2
   subst e0 e2;simp only[if_pos hle];rw[h0'];clear ho h0 hle h0' hc;go_enter Tryz.func175,Tryz.ntmps175;go_wp2;go_ret;exact⟨rfl,rfl⟩
  ·simp only at e1 e3 e4
   have e3':l.length<=cap:=e3;unfold maxLen at e4;subst e1;simp only[if_pos hle];go_enter Tryz.func175,Tryz.ntmps175;go_wp2;go_ret;exact⟨rfl,rfl⟩
 ·simp only[if_neg hle]
  go_enter Tryz.func175,Tryz.ntmps175;go_wp2;go_ret;exact⟨rfl,rfl⟩
theorem au.cut{w:World}{h:Hd}{l:List ByteArray}(o:au w h (am l))(c:Nat)(hc:c<=l.length):au w h (am (l.take c)):=by
 have hlen:(l.take c).length=c:=by simp;omega
 rcases o.ways with ⟨e0,h0,_⟩ | ⟨g,cur,e1,e2,e3,e4,e5,e6⟩
 ·have h0':l.length=0:=h0
  have:c=0:=by omega
  subst this;subst e0;exact⟨by simp[am,strs],Or.inl ⟨by simp[am],by simp[am]⟩⟩
 ·obtain⟨ao,cap⟩:=h
  simp only at e1 e3 e4 e5;subst e1;refine⟨by simp[am,strs],Or.inr ⟨g,cap,cur,rfl,Nat.zero_le _,e2,?_,e4,e5,?_⟩⟩
  ·have:l.length<=cap:=e3
   simp only[am];omega
  ·have e6':cur.toList.take (l.length*1)=strs l:=e6
   simp only[am,hlen];have:strs (l.take c)=(strs l).take c:=by simp[strs,List.map_take]
   rw[this,<-e6',List.take_take]
   congr 1
   omega
end Go.Proofs.YtlbhbocbakijbaaGreat
