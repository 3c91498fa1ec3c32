import Derived.Deep.RegionLaw
import Derived.Test.YtpddjjabfbfifaaGreatG04
namespace Go.Proofs.YtpddjjabfbfifaaGreat
open Go.RowKit
set_option maxHeartbeats 40000000
structure eS(d:Db)(N:Nat):Prop where
 labels:d.labels.length<=N
 constants:d.constants.length<=N
 variables:d.variables.length<=N
 active:d.active.length<=N
 typed:d.typed.length<=N
 blocks:d.blocks.length<=N
 sts:d.sts.length<=N
 rbl:d.rbl.length<=N
 symbols:d.symbols.length<=N
 proof:d.proof.length<=N
theorem oe(l m:List ByteArray):(⟨(aD l).e,(aD l).size,(aD l).n+m.length,(aD l).xs++dN m⟩:dK)=aD (l++m):=by
 simp[aD,dN]
theorem ko(l:List ByteArray):∀u∈dN l,u.oneCell'=true:=by
 intro u hu;simp only[dN,List.mem_map]at hu;obtain⟨x,_,rfl⟩:=hu;rfl
set_option maxRecDepth 100000 in
theorem qQ(b t o:Nat)(pre post:List Value)(d:Db)(H:Nat->Hd)(w:World)(h:aN w b t pre post d H)(ho:pre.length=o)(hm:0<d.symbols.length)(hs:eS d 100000000) :
  Calls Tryz.prog 265 #[.pointer (some ⟨b,o,none⟩),.slice (H 8).ao d.symbols.length (H 8).cap] w fun e w'=>e=.returned (.tuple #[])/\∃H',aN w' b t pre post { d with constants:=d.constants++d.symbols } H'/\aw b w H w' H':=by
 obtain⟨i0,hi,hz0,hz1,hz2⟩:=info_parts jI;obtain⟨q0,q1,q2,q3,q4,q5,q6,q7,q8,q9,q10,q11,q12⟩:=h.cells o ho;have hfr:=h.free;have hbw:=h.lt;have hown:=h.own 1;have hw8:aA w (H 8) (aD d.symbols):=h.own 8;have hl1:=hs.constants;have hl2:=hs.symbols
 rcases hw8.ways with ⟨_,h0,_⟩ | ⟨g8,cur8,e8,_⟩
 ·have:d.symbols.length=0:=h0
  omega
 ·rw[e8]
  have hsrc:Hid (∀j u,(dN d.symbols)[j]?=some u->w.cell? ((⟨g8,0,none⟩:Addr).add j)=some u):=fun j u hj=>by rw[bK];exact hw8.cell e8 j u hj
  clear hw8;go_enter Tryz.func265,Tryz.ntmps265;go_wp2_with (at_builtin;refine aM _ rfl (.tmp 8) (.tmp 9) 61 rfl i0 (.string ⟨#[]⟩) 16 (H 1) (aD d.constants) Tryz.underlying61 hi hz0 hz1 hz2 rfl Nat.one_pos rfl hown ⟨g8,0,none⟩ d.symbols.length (H 8).cap (dN d.symbols) rfl ?c0 hsrc.out (ko _) hm ?c3 ?c4 ?_)
  case c0=>simp[dN,aD]
  case c3=>simp only[aD];unfold maxLen;omega
  case c4=>simp only[aD];omega
  ·intro g cap' w1 hw1 hgr hfresh
   obtain⟨k0,f0,HP⟩:=h.app (d':={ d with constants:=d.constants++d.symbols }) o 1 ho 1 (by omega) g cap' ((aD d.constants).n+d.symbols.length) _ hw1 (oe d.constants d.symbols) hgr hfresh (up d H _) (by omega) _ rfl (by simp[bU,fI,aD]);clear hown q0 q1 q2 q3 q4 q5 q6 q7 q8 q9 q10 q11 q12 hw1 hgr hfresh hfr hsrc;go_wp2;go_end0;exact⟨rfl,_,HP.out.1,HP.out.2⟩
def dC(v l:List ByteArray):List ByteArray:=l.foldl (fun v x=>if aI v x=true then v else v++[x]) v
def dP(d:Db)(k:Nat):Db:={ d with active:=d.active++d.symbols,variables:=dC d.variables (d.symbols.take k) }
theorem Ey(v l:List ByteArray)(x:ByteArray):dC v (l++[x])=if aI (dC v l) x=true then dC v l else dC v l++[x]:=by
 unfold dC;rw[List.foldl_append];rfl
theorem zZ(v l:List ByteArray):(dC v l).length<=v.length+l.length:=by
 induction l generalizing v with
 | nil=>simp[dC]
 | cons x l ih =>
  have:=ih (if aI v x=true then v else v++[x]);have e:dC v (x :: l)=dC (if aI v x=true then v else v++[x]) l:=rfl;rw[e];have h2:(if aI v x=true then v else v++[x]).length<=v.length+1:=by split <;> simp
  simp only[List.length_cons];omega
theorem mo{α:Type}(l:List α)(k:Nat)(h:k<l.length):l.take (k+1)=l.take k++[l[k]]:=by simp
set_option maxRecDepth 100000 in
theorem qV(b t o:Nat)(pre post:List Value)(d:Db)(H:Nat->Hd)(w:World)(h:aN w b t pre post d H)(ho:pre.length=o)(hm:0<d.symbols.length)(hs:eS d 100000000) :
  Calls Tryz.prog 266 #[.pointer (some ⟨b,o,none⟩),.slice (H 8).ao d.symbols.length (H 8).cap] w fun e w'=>e=.returned (.tuple #[])/\∃H',aN w' b t pre post (dP d d.symbols.length) H'/\aw b w H w' H':=by
 obtain⟨i0,hi,hz0,hz1,hz2⟩:=info_parts jI;obtain⟨q0,q1,q2,q3,q4,q5,q6,q7,q8,q9,q10,q11,q12⟩:=h.cells o ho;have hfr:=h.free;have hbw:=h.lt;have hown:=h.own 3;have hw8:aA w (H 8) (aD d.symbols):=h.own 8;have hl1:=hs.active;have hl2:=hs.symbols;have hl3:=hs.variables
 rcases hw8.ways with ⟨_,h0,_⟩ | ⟨g8,cur8,e8,_⟩
 ·have:d.symbols.length=0:=h0
  omega
 ·rw[e8]
  have hsrc:Hid (∀j u,(dN d.symbols)[j]?=some u->w.cell? ((⟨g8,0,none⟩:Addr).add j)=some u):=fun j u hj=>by rw[bK];exact hw8.cell e8 j u hj
  clear hw8;go_enter Tryz.func266,Tryz.ntmps266;go_wp2_with (at_builtin;refine aM _ rfl (.tmp 9) (.tmp 10) 61 rfl i0 (.string ⟨#[]⟩) 16 (H 3) (aD d.active) Tryz.underlying61 hi hz0 hz1 hz2 rfl Nat.one_pos rfl hown ⟨g8,0,none⟩ d.symbols.length (H 8).cap (dN d.symbols) rfl ?c0 hsrc.out (ko _) hm ?c3 ?c4 ?_)
  case c0=>simp[dN,aD]
  case c3=>simp only[aD];unfold maxLen;omega
  case c4=>simp only[aD];omega
  ·intro g cap' w1 hw1 hgr hfresh
   obtain⟨k0,f0,HP⟩:=h.app (d':=dP d 0) o 3 ho 3 (by omega) g cap' ((aD d.active).n+d.symbols.length) _ hw1 (oe d.active d.symbols) hgr hfresh (rV d H _) (by omega) _ rfl (by simp[bU,fI,aD,dP,dC]);clear hown q0 q1 q2 q3 q4 q5 q6 q7 q8 q9 q10 q11 q12 hw1 hgr hfresh hfr hsrc;go_wp2
   go_loopg [4] d.symbols.length (fun g i wr=>∃(k:Nat) (H1:Nat->Hd),k<=d.symbols.length/\g=d.symbols.length-k/\i=.int .i64 k/\H1 8=H 8/\aN wr b t pre post (dP d k) H1/\aw b w H wr H1)
   case atStart=>exact⟨0,_,by omega,by omega,rfl,by simp[fI],HP.out.1,HP.out.2⟩
   case round =>
    obtain⟨k,H1,hk,hg,rfl,h8,D,T⟩:=hrel;clear HP k0 f0
    by_cases hlt:k<d.symbols.length
    ·obtain⟨q0,q1,q2,q3,q4,q5,q6,q7,q8,q9,q10,q11,q12⟩:=D.cells o ho
     have hw8:aA wr (H 8) (aD d.symbols):=by have:=D.own 8;rw[h8]at this;exact this
     have c1:=hw8.cell e8 k (.string d.symbols[k]) (p9 d.symbols k hlt)
     have hvl:(dP d k).variables.length<=1073741824:=by
      have:=zZ d.variables (d.symbols.take k);simp only[List.length_take]at this
      show(dC d.variables (d.symbols.take k)).length<=_
      omega
     have hfr:=D.free
     have HS:Hid (dP d (k+1)=if aI (dP d k).variables d.symbols[k]=true then dP d k else { dP d k with variables:=(dP d k).variables++[d.symbols[k]] }):=by
      show dP d (k+1)=_
      unfold dP;rw[mo d.symbols k hlt,Ey];simp only
      split <;> rfl
     generalize dP d k=dk at *;generalize d.symbols[k]=x at *;clear q0 q1 q3 q4 q5 q6 q7 q8 q9 q10 q11 q12 hw8
     cases hb:aI dk.variables x
     ·have HT:Hid (dP d (k+1)={ dk with variables:=dk.variables++[x] }):=by show dP d (k+1)=_;rw[HS.out];simp[hb]
      clear HS;go_wp2_with fail
      go_quiet ((go_at_call 253;exact Calls.quiet_of_same (dR (H1 2) dk.variables x _ (D.still ((ab.refl [] _).drewN _) |>.own 2) hvl)))
      obtain⟨wq,hwq⟩:∃wq,wq=wr.drewN nq:=⟨_,rfl⟩
      rw[<-hwq];have D2:aN wq b t pre post dk H1:=by rw[hwq];exact D.still ((ab.refl [] _).drewN _)
      have T2:aw b w H wq H1:=by rw[hwq];exact T.still ((ab.refl [] _).drewN _)
      have c1q:wq.cell? ⟨g8,k,none⟩=some (.string x):=by rw[hwq];exact c1
      clear hwq c1 D T hfr q2;obtain⟨q0,q1,q2,q3,q4,q5,q6,q7,q8,q9,q10,q11,q12⟩:=D2.cells o ho;have hfr:=D2.free;have hbq:=D2.lt;clear q0 q1 q3 q4 q5 q6 q7 q8 q9 q10 q11 q12;have hD:Hid (aN (wq.alloc (.cells #[.string x] 9)).drew b t pre post dk H1):=D2.still ((ab.refl [] wq).alloc _).drew
      have s2:Hid (∀j u,([.string x]:List Value)[j]?=some u->(wq.alloc (.cells #[.string x] 9)).drew.cell? ((⟨wq.heap.size,0,none⟩:Addr).add j)=some u):=by
       intro j u hj;have hk:(wq.alloc (.cells #[.string x] 9)).drew.heap[wq.heap.size]?=some (.cells #[.string x] 9 (0,0)):=heap_alloc_new wq _;rw[bK,aa hk];simpa using hj
      have s3:Hid (∀u∈([.string x]:List Value),u.oneCell'=true):=by intro u hu;simp at hu;subst hu;rfl
      have s4:Hid ((aD dk.variables).n+1<=maxLen):=by show _<=_;simp only[aD];unfold maxLen;omega
      have s5:Hid (((aD dk.variables).n+1)*16<=140737488355328):=by show _<=_;simp only[aD];omega
      go_wp2_with fail
      go_region_law (refine cd rfl (.tmp 34) (.tmp 39) 61 rfl i0 (.string ⟨#[]⟩) 16 (H1 2) (aD dk.variables) Tryz.underlying61 hi hz0 hz1 hz2 rfl Nat.one_pos (by simp[Act.eval] <;> rfl) (hD.out.own 2) ⟨wq.heap.size,0,none⟩ 1 1 [.string x] (by simp[Act.eval]) rfl s2.out s3.out Nat.one_pos s4.out s5.out ?_;intro g cap' w1 hw1 hgr hfresh;obtain⟨k5,f5,HP⟩:=hD.out.app (d':={ dk with variables:=dk.variables++[x] }) o 2 ho 2 (by omega) g cap' ((aD dk.variables).n+1) _ hw1 (dS dk.variables x) hgr (by simpa using hfresh) (ub dk H1 _) (by omega) _ rfl (by simp[bU,fI,aD]);clear hw1 hgr hfresh)
      all_goals go_wp2
      all_goals
       go_roundg (d.symbols.length-(k+1))
       case measure=>omega
       case rel=>exact⟨k+1,_,by omega,rfl,by go_num,by simp[fI,h8],by rw[HT.out];exact HP.out.1,T2.trans (HP.out.2.first ((ab.refl [] _).alloc _).drew)⟩
     ·have HT:Hid (dP d (k+1)=dk):=by show dP d (k+1)=_;rw[HS.out];simp[hb]
      clear HS;go_wp2_with fail
      go_quiet ((go_at_call 253;exact Calls.quiet_of_same (dR (H1 2) dk.variables x _ (D.still ((ab.refl [] _).drewN _) |>.own 2) hvl)))
      go_wp2
      go_roundg (d.symbols.length-(k+1))
      case measure=>omega
      case rel=>exact⟨k+1,H1,by omega,rfl,by go_num,h8,by rw[HT.out];exact D.still ((ab.refl [] _).drewN _),T.still ((ab.refl [] _).drewN _)⟩
    ·have e:k=d.symbols.length:=by omega
     subst e;go_wp2;go_end0;exact⟨rfl,H1,D,T⟩
def iw(n:Int):Bool:=(decide (97<=n)&&decide (n<=122))||(decide (65<=n)&&decide (n<=90))||(decide (48<=n)&&decide (n<=57))||n==45||n==95||n==46
def fC(s:ByteArray):Bool:=(List.range s.size).all (fun i=>iw (aF s i))
theorem nc(n:Int)(w:World) :
  Calls Tryz.prog 275 #[.int .u8 n] w fun e w'=>e=.returned (.bool (iw n))/\w'=w:=by
 by_cases h1:(97<=n/\n<=122)∨(65<=n/\n<=90)∨(48<=n/\n<=57)
 ·have HL:Hid (iw n=true):=by show iw n=true;simp only[iw,Bool.or_eq_true,Bool.and_eq_true,decide_eq_true_eq];omega
  rcases h1 with h1 | h1 | h1
  all_goals
   go_enter Tryz.func275,Tryz.ntmps275;go_wp2;go_ret;exact⟨aB HL.out.symm,rfl⟩
 ·have HL:Hid (iw n=(n==45||n==95||n==46)):=by
   show iw n=_
   have e1:(decide (97<=n)&&decide (n<=122))=false:=by simp;omega
   have e2:(decide (65<=n)&&decide (n<=90))=false:=by simp;omega
   have e3:(decide (48<=n)&&decide (n<=57))=false:=by simp;omega
   simp only[iw,e1,e2,e3,Bool.false_or]
  go_enter Tryz.func275,Tryz.ntmps275;go_wp2
  all_goals go_ret
  all_goals (refine⟨aB ?_,rfl⟩;first | rfl | (rw[HL.out];done) | (rw[HL.out];simp[*];done))
theorem Ax{n:Nat}{p:Nat->Bool}(i:Nat)(h:i<n)(hp:p i=false):(List.range n).all p=false:=by
 rw[List.all_eq_false];exact⟨i,by simpa using h,by simp[hp]⟩
theorem xr{n:Nat}{p:Nat->Bool}(h:∀i,i<n->p i=true):(List.range n).all p=true:=by
 rw[List.all_eq_true];intro i hi;exact h i (by simpa using hi)
theorem lJ(s:ByteArray)(w:World)(hs:s.size<=1073741824) :
  Calls Tryz.prog 263 #[.string s] w fun e w'=>e=.returned (.bool (fC s))/\w'=w:=by
 go_enter Tryz.func263,Tryz.ntmps263;go_wp2
 go_loopg [3] s.size (fun g i wr=>∃k:Nat,k<=s.size/\g=s.size-k/\i=.int .i64 k/\Hid (∀i,i<k->iw (aF s i)=true)/\wr=w)
 case atStart=>exact⟨0,by omega,by omega,rfl,fun i h=>by omega,rfl⟩
 case round =>
  obtain⟨k,hk,hg,rfl,hall,rfl⟩:=hrel
  by_cases hlt:k<s.size
  ·cases hb:iw (s[k].toNat:Int)
   ·have HY:Hid (fC s=false):=Ax k hlt (by rw[bI s k hlt];exact hb)
    go_wp2_with fail;refine(nc _ _).mono ?_;rintro e w1 ⟨rfl,rfl⟩;go_wp2;go_ret;exact⟨aB HY.out.symm,rfl⟩
   ·go_wp2_with fail
    refine(nc _ _).mono ?_;rintro e w1 ⟨rfl,rfl⟩;go_wp2
    go_roundg (s.size-(k+1))
    case measure=>omega
    case rel =>
     refine⟨k+1,by omega,rfl,by go_num,?_,rfl⟩;intro i hi
     by_cases e:i=k
     ·subst e;rw[bI s i hlt];exact hb
     ·exact hall.out i (by omega)
  ·have HY:Hid (fC s=true):=xr (fun i hi=>hall.out i (by omega))
   go_wp2;go_ret;exact⟨aB HY.out.symm,rfl⟩
theorem jm(b t o:Nat)(pre post:List Value)(d:Db)(H:Nat->Hd)(x:ByteArray)(w:World)(h:aN w b t pre post d H)(ho:pre.length=o)(hl:d.active.length<=1073741824) :
  Calls Tryz.prog 269 #[.pointer (some ⟨b,o,none⟩),.string x] w fun e w'=>e=.returned (.bool (aI d.active x))/\w'=w:=by
 obtain⟨q0,q1,q2,q3,q4,q5,q6,q7,q8,q9,q10,q11,q12⟩:=h.cells o ho;go_enter Tryz.func269,Tryz.ntmps269;go_wp2_with fail;refine(dR (H 3) d.active x _ (by exact h.own 3) hl).mono ?_;rintro e w1 ⟨rfl,rfl⟩;go_wp2;go_ret;exact⟨rfl,rfl⟩
theorem lj(b t o:Nat)(pre post:List Value)(d:Db)(H:Nat->Hd)(x:ByteArray)(w:World)(h:aN w b t pre post d H)(ho:pre.length=o)(hl:d.constants.length<=1073741824) :
  Calls Tryz.prog 270 #[.pointer (some ⟨b,o,none⟩),.string x] w fun e w'=>e=.returned (.bool (aI d.constants x))/\w'=w:=by
 obtain⟨q0,q1,q2,q3,q4,q5,q6,q7,q8,q9,q10,q11,q12⟩:=h.cells o ho;go_enter Tryz.func270,Tryz.ntmps270;go_wp2_with fail;refine(dR (H 1) d.constants x _ (by exact h.own 1) hl).mono ?_;rintro e w1 ⟨rfl,rfl⟩;go_wp2;go_ret;exact⟨rfl,rfl⟩
theorem lM(b t o:Nat)(pre post:List Value)(d:Db)(H:Nat->Hd)(x:ByteArray)(w:World)(h:aN w b t pre post d H)(ho:pre.length=o)(hl:d.typed.length<=1073741824) :
  Calls Tryz.prog 271 #[.pointer (some ⟨b,o,none⟩),.string x] w fun e w'=>e=.returned (.bool (aI d.typed x))/\w'=w:=by
 obtain⟨q0,q1,q2,q3,q4,q5,q6,q7,q8,q9,q10,q11,q12⟩:=h.cells o ho;go_enter Tryz.func271,Tryz.ntmps271;go_wp2_with fail;refine(dR (H 4) d.typed x _ (by exact h.own 4) hl).mono ?_;rintro e w1 ⟨rfl,rfl⟩;go_wp2;go_ret;exact⟨rfl,rfl⟩
def dj(d:Db)(x:ByteArray):Bool:=aI d.labels x||aI d.constants x||aI d.variables x
def dB(d:Db)(x:ByteArray):Bool:=aI d.labels x||aI d.constants x||aI d.active x
theorem kj(b t o:Nat)(pre post:List Value)(d:Db)(H:Nat->Hd)(x:ByteArray)(w:World)(h:aN w b t pre post d H)(ho:pre.length=o)(hs:eS d 1073741824) :
  Calls Tryz.prog 254 #[.pointer (some ⟨b,o,none⟩),.string x] w fun e w'=>e=.returned (.bool (dj d x))/\w'=w:=by
 obtain⟨q0,q1,q2,q3,q4,q5,q6,q7,q8,q9,q10,q11,q12⟩:=h.cells o ho
 cases h1:aI d.labels x
 ·cases h2:aI d.constants x
  ·have HT:Hid (dj d x=aI d.variables x):=by show dj d x=_;simp[dj,h1,h2]
   go_enter Tryz.func254,Tryz.ntmps254;go_wp2_with fail;refine(dR (H 0) d.labels x _ (by exact h.own 0) hs.labels).mono ?_;rintro e w1 ⟨rfl,rfl⟩;go_wp2_with fail;refine(dR (H 1) d.constants x _ (by exact h.own 1) hs.constants).mono ?_;rintro e w1 ⟨rfl,rfl⟩;go_wp2_with fail;refine(dR (H 2) d.variables x _ (by exact h.own 2) hs.variables).mono ?_;rintro e w1 ⟨rfl,rfl⟩;go_wp2;go_ret;exact⟨aB (by rw[HT.out]),rfl⟩
  ·have HT:Hid (dj d x=true):=by show dj d x=_;simp[dj,h1,h2]
   go_enter Tryz.func254,Tryz.ntmps254;go_wp2_with fail;refine(dR (H 0) d.labels x _ (by exact h.own 0) hs.labels).mono ?_;rintro e w1 ⟨rfl,rfl⟩;go_wp2_with fail;refine(dR (H 1) d.constants x _ (by exact h.own 1) hs.constants).mono ?_;rintro e w1 ⟨rfl,rfl⟩;go_wp2;go_ret;exact⟨aB (by rw[HT.out]),rfl⟩
 ·have HT:Hid (dj d x=true):=by show dj d x=_;simp[dj,h1]
  go_enter Tryz.func254,Tryz.ntmps254;go_wp2_with fail;refine(dR (H 0) d.labels x _ (by exact h.own 0) hs.labels).mono ?_;rintro e w1 ⟨rfl,rfl⟩;go_wp2;go_ret;exact⟨aB (by rw[HT.out]),rfl⟩
theorem xv(b t o:Nat)(pre post:List Value)(d:Db)(H:Nat->Hd)(x:ByteArray)(w:World)(h:aN w b t pre post d H)(ho:pre.length=o)(hs:eS d 1073741824) :
  Calls Tryz.prog 255 #[.pointer (some ⟨b,o,none⟩),.string x] w fun e w'=>e=.returned (.bool (dB d x))/\w'=w:=by
 obtain⟨q0,q1,q2,q3,q4,q5,q6,q7,q8,q9,q10,q11,q12⟩:=h.cells o ho
 cases h1:aI d.labels x
 ·cases h2:aI d.constants x
  ·have HT:Hid (dB d x=aI d.active x):=by show dB d x=_;simp[dB,h1,h2]
   go_enter Tryz.func255,Tryz.ntmps255;go_wp2_with fail;refine(dR (H 0) d.labels x _ (by exact h.own 0) hs.labels).mono ?_;rintro e w1 ⟨rfl,rfl⟩;go_wp2_with fail;refine(dR (H 1) d.constants x _ (by exact h.own 1) hs.constants).mono ?_;rintro e w1 ⟨rfl,rfl⟩;go_wp2_with fail;refine(dR (H 3) d.active x _ (by exact h.own 3) hs.active).mono ?_;rintro e w1 ⟨rfl,rfl⟩;go_wp2;go_ret;exact⟨aB (by rw[HT.out]),rfl⟩
  ·have HT:Hid (dB d x=true):=by show dB d x=_;simp[dB,h1,h2]
   go_enter Tryz.func255,Tryz.ntmps255;go_wp2_with fail;refine(dR (H 0) d.labels x _ (by exact h.own 0) hs.labels).mono ?_;rintro e w1 ⟨rfl,rfl⟩;go_wp2_with fail;refine(dR (H 1) d.constants x _ (by exact h.own 1) hs.constants).mono ?_;rintro e w1 ⟨rfl,rfl⟩;go_wp2;go_ret;exact⟨aB (by rw[HT.out]),rfl⟩
 ·have HT:Hid (dB d x=true):=by show dB d x=_;simp[dB,h1]
  go_enter Tryz.func255,Tryz.ntmps255;go_wp2_with fail;refine(dR (H 0) d.labels x _ (by exact h.own 0) hs.labels).mono ?_;rintro e w1 ⟨rfl,rfl⟩;go_wp2;go_ret;exact⟨aB (by rw[HT.out]),rfl⟩
theorem kn(b t o:Nat)(pre post:List Value)(d:Db)(H:Nat->Hd)(w:World)(h:aN w b t pre post d H)(ho:pre.length=o) :
  Calls Tryz.prog 207 #[.pointer (some ⟨b,o,none⟩)] w fun e w'=>e=.returned (.bool (decide (0<d.blocks.length)))/\w'=w:=by
 obtain⟨q0,q1,q2,q3,q4,q5,q6,q7,q8,q9,q10,q11,q12⟩:=h.cells o ho;go_enter Tryz.func207,Tryz.ntmps207;go_wp2;go_ret;exact⟨rfl,rfl⟩
def jb(d:Db):Bool:=d.kind != 0||decide (0<d.blocks.length)
theorem pX(b t o:Nat)(pre post:List Value)(d:Db)(H:Nat->Hd)(w:World)(h:aN w b t pre post d H)(ho:pre.length=o) :
  Calls Tryz.prog 158 #[.pointer (some ⟨b,o,none⟩)] w fun e w'=>e=.returned (.bool (jb d))/\w'=w:=by
 obtain⟨q0,q1,q2,q3,q4,q5,q6,q7,q8,q9,q10,q11,q12⟩:=h.cells o ho
 cases hk:(d.kind != 0)
 ·have HT:Hid (jb d=decide (0<d.blocks.length)):=by show jb d=_;simp only[jb,hk,Bool.false_or]
  go_enter Tryz.func158,Tryz.ntmps158;go_wp2_with fail;refine(kn b t o pre post d H _ h ho).mono ?_;rintro e w1 ⟨rfl,rfl⟩;go_wp2;go_ret;exact⟨aB (by rw[HT.out]),rfl⟩
 ·have HT:Hid (jb d=true):=by show jb d=_;simp only[jb,hk,Bool.true_or]
  go_enter Tryz.func158,Tryz.ntmps158;go_wp2_with fail;go_ret;exact⟨aB (by rw[HT.out]),rfl⟩
def ln(d:Db):Int:=if(d.kind==1)=true∨(d.kind==2)=true then 2 else 1
theorem qS(b t o:Nat)(pre post:List Value)(d:Db)(H:Nat->Hd)(w:World)(h:aN w b t pre post d H)(ho:pre.length=o) :
  Calls Tryz.prog 251 #[.pointer (some ⟨b,o,none⟩)] w fun e w'=>e=.returned (.int .i64 (ln d))/\w'=w:=by
 obtain⟨q0,q1,q2,q3,q4,q5,q6,q7,q8,q9,q10,q11,q12⟩:=h.cells o ho
 cases h4:(d.kind==1)
 ·cases h5:(d.kind==2)
  all_goals
   have HT:Hid (ln d=if(d.kind==1)=true∨(d.kind==2)=true then 2 else 1):=rfl;go_enter Tryz.func251,Tryz.ntmps251;go_wp2;go_ret;exact⟨am (by rw[HT.out,h4,h5];simp),rfl⟩
 ·have HT:Hid (ln d=2):=by show ln d=_;simp only[ln,h4];simp
  go_enter Tryz.func251,Tryz.ntmps251;go_wp2;go_ret;exact⟨am (by rw[HT.out]),rfl⟩
theorem Ds(hd:Hd)(l:List ByteArray)(c:Nat)(w:World)(ho:aA w hd (aD l))(hc:c<=1073741824) :
  Calls Tryz.prog 262 #[.slice hd.ao l.length hd.cap,.int .i64 c] w fun e w'=>e=.returned (.slice hd.ao (if c<=l.length then c else l.length) hd.cap)/\w'=w:=by
 obtain⟨ao,cap⟩:=hd
 by_cases hle:c<=l.length
 ·rcases ho.ways with ⟨e0,h0,_⟩ | ⟨g,cur,e1,e2,e3,e4,_⟩
  ·have h0':l.length=0:=h0
   have hc0:c=0:=by omega
   subst hc0
   injection e0 with e0 e2
   subst e0 e2;simp only[if_pos hle];rw[h0'];clear ho h0 hle h0' hc;go_enter Tryz.func262,Tryz.ntmps262;go_wp2;go_ret;exact⟨rfl,rfl⟩
  ·simp only at e1 e3 e4
   have e3':l.length<=cap:=e3;unfold maxLen at e4;subst e1;simp only[if_pos hle];go_enter Tryz.func262,Tryz.ntmps262;go_wp2;go_ret;exact⟨rfl,rfl⟩
 ·simp only[if_neg hle]
  go_enter Tryz.func262,Tryz.ntmps262;go_wp2;go_ret;exact⟨rfl,rfl⟩
theorem aA.cut{w:World}{h:Hd}{l:List ByteArray}(o:aA w h (aD l))(c:Nat)(hc:c<=l.length):aA w h (aD (l.take c)):=by
 have hlen:(l.take c).length=c:=by simp;omega
 rcases o.ways with ⟨e0,h0,_⟩ | ⟨g,cur,e1,e2,e3,e4,e5,e6⟩
 ·have h0':l.length=0:=h0
  have:c=0:=by omega
  subst this;subst e0;exact⟨by simp[aD,dN],Or.inl ⟨by simp[aD],by simp[aD]⟩⟩
 ·obtain⟨ao,cap⟩:=h
  simp only at e1 e3 e4 e5;subst e1;refine⟨by simp[aD,dN],Or.inr ⟨g,cap,cur,rfl,Nat.zero_le _,e2,?_,e4,e5,?_⟩⟩
  ·have:l.length<=cap:=e3
   simp only[aD];omega
  ·have e6':cur.toList.take (l.length*1)=dN l:=e6
   simp only[aD,hlen];have:dN (l.take c)=(dN l).take c:=by simp[dN,List.map_take]
   rw[this,<-e6',List.take_take]
   congr 1
   omega
end Go.Proofs.YtpddjjabfbfifaaGreat
