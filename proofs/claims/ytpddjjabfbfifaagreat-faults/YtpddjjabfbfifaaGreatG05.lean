import Derived.Deep.RegionLaw
import Derived.Test.YtpddjjabfbfifaaGreatG04
namespace Go.Proofs.YtpddjjabfbfifaaGreat
open Go.RowKit
set_option maxHeartbeats 40000000
def aI(l:List ByteArray)(x:ByteArray):Bool:=l.any (fun y=>y.toList==x.toList)
theorem CG(l:List ByteArray)(x:ByteArray)(k:Nat)(h:k<l.length)(he:aI l x=aI (l.drop k) x)(hb:((l[k]).toList==x.toList)=true):aI l x=true:=by
 rw[he,List.drop_eq_getElem_cons h];simp only[aI,List.any_cons,hb,Bool.true_or]
theorem yP(l:List ByteArray)(x:ByteArray)(k:Nat)(h:k<l.length)(he:aI l x=aI (l.drop k) x)(hb:((l[k]).toList==x.toList)=false):aI l x=aI (l.drop (k+1)) x:=by
 rw[he,List.drop_eq_getElem_cons h];simp only[aI,List.any_cons,hb,Bool.false_or]
theorem yQ(l:List ByteArray)(x:ByteArray)(k:Nat)(h:¬k<l.length)(he:aI l x=aI (l.drop k) x):aI l x=false:=by
 rw[he,List.drop_of_length_le (by omega)];rfl
theorem qu(l:List ByteArray)(k:Nat)(h:k<l.length):(dO l)[k]?=some (.string l[k]):=by simp[dO,h]
theorem dS(hd:Hd)(l:List ByteArray)(x:ByteArray)(w:World)(ho:aA w hd (aD l))(hl:l.length<=1073741824) :
  Calls Tryz.prog 253 #[.slice hd.ao l.length hd.cap,.string x] w fun e w'=>e=.returned (.bool (aI l x))/\w'=w:=by
 obtain⟨ao,cap⟩:=hd
 rcases ho.ways with ⟨e0,h0,_⟩ | ⟨g,cur,e1,_⟩
 ·have h0':l.length=0:=h0
  have hl0:l=[]:=List.eq_nil_of_length_eq_zero h0';subst hl0
  injection e0 with e0 e2
  subst e0;clear ho h0 h0' hl e2;go_enter Tryz.func253,Tryz.ntmps253;go_wp2;refine wp_loop_rounds 1 ?_;rw[rounds_succ];go_wp2;go_ret;exact⟨rfl,rfl⟩
 ·simp only at e1
  subst e1;go_enter Tryz.func253,Tryz.ntmps253;go_wp2
  go_loopg [5] l.length (fun g i wr=>∃k:Nat,k<=l.length/\g=l.length-k/\i=.int .i64 k/\Hid (aI l x=aI (l.drop k) x)/\wr=w)
  case atStart=>exact⟨0,by omega,by omega,rfl,rfl,rfl⟩
  case round =>
   obtain⟨k,hk,hg,rfl,hs,rfl⟩:=hrel
   by_cases hlt:k<l.length
   ·have c1:=ho.cell rfl k (.string l[k]) (qu l k hlt)
    cases hb:((l[k]).toList==x.toList)
    ·have HM:Hid (aI l x=aI (l.drop (k+1)) x):=yP l x k hlt hs.out hb
     clear hs ho;go_wp2
     go_roundg (l.length-(k+1))
     case measure=>omega
     case rel=>exact⟨k+1,by omega,rfl,by go_num,HM,rfl⟩
    ·have HM:Hid (aI l x=true):=CG l x k hlt hs.out hb
     clear hs ho;go_wp2;go_ret;exact⟨aB HM.out.symm,rfl⟩
   ·have HM:Hid (aI l x=false):=yQ l x k hlt hs.out
    clear hs ho;go_wp2;go_ret;exact⟨aB HM.out.symm,rfl⟩
theorem jI:(Tryz.prog.info? 9).map (fun i=>(i.zero,i.size,i.bytes))=some (some (.string ⟨#[]⟩),1,16):=by kernel_rfl
theorem Fa(l:List ByteArray)(x:ByteArray):dO (l++[x])=dO l++[.string x]:=by simp[dO]
theorem dV(l:List ByteArray)(x:ByteArray):(⟨(aD l).e,(aD l).size,(aD l).n+1,(aD l).xs++[.string x]⟩:dK)=aD (l++[x]):=by
 simp[aD,Fa]
set_option maxRecDepth 100000 in
theorem wH(b t o:Nat)(pre post:List Value)(d:Db)(H:Nat->Hd)(x:ByteArray)(w:World)(h:aN w b t pre post d H)(ho:pre.length=o)(hl:d.labels.length<=1073741824) :
  Calls Tryz.prog 264 #[.pointer (some ⟨b,o,none⟩),.string x] w fun e w'=>e=.returned (.tuple #[])/\∃H',aN w' b t pre post { d with labels:=d.labels++[x] } H'/\aw b w H w' H':=by
 obtain⟨i0,hi,hz0,hz1,hz2⟩:=info_parts jI;obtain⟨q0,q1,q2,q3,q4,q5,q6,q7,q8,q9,q10,q11,q12⟩:=h.cells o ho;have hfr:=h.free;have hbw:=h.lt;have hA:=h.still ((ab.refl [] w).alloc (.cells #[.string x] 9));have hownA:=hA.own 0;go_enter Tryz.func264,Tryz.ntmps264;go_wp2_with (at_builtin;refine aM _ rfl (.tmp 8) (.tmp 10) 61 rfl i0 (.string ⟨#[]⟩) 16 (H 0) (aD d.labels) Tryz.underlying61 hi hz0 hz1 hz2 rfl Nat.one_pos rfl hownA ⟨w.heap.size,0,none⟩ 1 1 [.string x] rfl rfl ?c1 ?c2 Nat.one_pos ?c3 ?c4 ?_)
 case c1=>intro j u hj;match j,hj with | 0,hj=>simp at hj;subst hj;simp[Addr.add]
 case c2=>intro u hu;simp at hu;subst hu;rfl
 case c3=>simp only[aD];unfold maxLen;omega
 case c4=>simp only[aD];omega
 ·intro g cap' w1 hw1 hgr hfresh
  obtain⟨k0,f0,HP⟩:=hA.app (d':={ d with labels:=d.labels++[x] }) o 0 ho 0 (by omega) g cap' ((aD d.labels).n+1) _ hw1 (dV d.labels x) hgr (by simpa using hfresh) (zy d H _) (by omega) _ rfl (by simp[bU,fM,aD]);simp only[Nat.add_zero]at k0 f0 HP;clear hA hownA q0 q1 q2 q3 q4 q5 q6 q7 q8 q9 q10 q11 q12 hw1 hgr hfresh hfr;go_wp2;go_end0;exact⟨rfl,_,HP.out.1,HP.out.2.first ((ab.refl [] w).alloc _)⟩
set_option maxRecDepth 100000 in
theorem wI(b t o:Nat)(pre post:List Value)(d:Db)(H:Nat->Hd)(x:ByteArray)(w:World)(h:aN w b t pre post d H)(ho:pre.length=o)(hl:d.typed.length<=1073741824) :
  Calls Tryz.prog 267 #[.pointer (some ⟨b,o,none⟩),.string x] w fun e w'=>e=.returned (.tuple #[])/\∃H',aN w' b t pre post { d with typed:=d.typed++[x] } H'/\aw b w H w' H':=by
 obtain⟨i0,hi,hz0,hz1,hz2⟩:=info_parts jI;obtain⟨q0,q1,q2,q3,q4,q5,q6,q7,q8,q9,q10,q11,q12⟩:=h.cells o ho;have hfr:=h.free;have hbw:=h.lt;have hA:=h.still ((ab.refl [] w).alloc (.cells #[.string x] 9));have hownA:=hA.own 4;go_enter Tryz.func267,Tryz.ntmps267;go_wp2_with (at_builtin;refine aM _ rfl (.tmp 8) (.tmp 10) 61 rfl i0 (.string ⟨#[]⟩) 16 (H 4) (aD d.typed) Tryz.underlying61 hi hz0 hz1 hz2 rfl Nat.one_pos rfl hownA ⟨w.heap.size,0,none⟩ 1 1 [.string x] rfl rfl ?c1 ?c2 Nat.one_pos ?c3 ?c4 ?_)
 case c1=>intro j u hj;match j,hj with | 0,hj=>simp at hj;subst hj;simp[Addr.add]
 case c2=>intro u hu;simp at hu;subst hu;rfl
 case c3=>simp only[aD];unfold maxLen;omega
 case c4=>simp only[aD];omega
 ·intro g cap' w1 hw1 hgr hfresh
  obtain⟨k0,f0,HP⟩:=hA.app (d':={ d with typed:=d.typed++[x] }) o 4 ho 4 (by omega) g cap' ((aD d.typed).n+1) _ hw1 (dV d.typed x) hgr (by simpa using hfresh) (uw d H _) (by omega) _ rfl (by simp[bU,fM,aD])
  skip
  clear hA hownA q0 q1 q2 q3 q4 q5 q6 q7 q8 q9 q10 q11 q12 hw1 hgr hfresh hfr;go_wp2;go_end0;exact⟨rfl,_,HP.out.1,HP.out.2.first ((ab.refl [] w).alloc _)⟩
structure eR(d:Db)(N:Nat):Prop where
 labels:d.labels.length<=N
 constants:d.constants.length<=N
 variables:d.variables.length<=N
 active:d.active.length<=N
 typed:d.typed.length<=N
 blocks:d.blocks.length<=N
 sts:d.sts.length<=N
 rbl:d.rbl.length<=N
 symbols:d.symbols.length<=N
 proof:d.proof.length<=N
theorem om(l m:List ByteArray):(⟨(aD l).e,(aD l).size,(aD l).n+m.length,(aD l).xs++dO m⟩:dK)=aD (l++m):=by
 simp[aD,dO]
theorem ku(l:List ByteArray):∀u∈dO l,u.oneCell'=true:=by
 intro u hu;simp only[dO,List.mem_map]at hu;obtain⟨x,_,rfl⟩:=hu;rfl
set_option maxRecDepth 100000 in
theorem qD(b t o:Nat)(pre post:List Value)(d:Db)(H:Nat->Hd)(w:World)(h:aN w b t pre post d H)(ho:pre.length=o)(hm:0<d.symbols.length)(hs:eR d 100000000) :
  Calls Tryz.prog 265 #[.pointer (some ⟨b,o,none⟩),.slice (H 8).ao d.symbols.length (H 8).cap] w fun e w'=>e=.returned (.tuple #[])/\∃H',aN w' b t pre post { d with constants:=d.constants++d.symbols } H'/\aw b w H w' H':=by
 obtain⟨i0,hi,hz0,hz1,hz2⟩:=info_parts jI;obtain⟨q0,q1,q2,q3,q4,q5,q6,q7,q8,q9,q10,q11,q12⟩:=h.cells o ho;have hfr:=h.free;have hbw:=h.lt;have hown:=h.own 1;have hw8:aA w (H 8) (aD d.symbols):=h.own 8;have hl1:=hs.constants;have hl2:=hs.symbols
 rcases hw8.ways with ⟨_,h0,_⟩ | ⟨g8,cur8,e8,_⟩
 ·have:d.symbols.length=0:=h0
  omega
 ·rw[e8]
  have hsrc:Hid (∀j u,(dO d.symbols)[j]?=some u->w.cell? ((⟨g8,0,none⟩:Addr).add j)=some u):=fun j u hj=>by rw[bK];exact hw8.cell e8 j u hj
  clear hw8;go_enter Tryz.func265,Tryz.ntmps265;go_wp2_with (at_builtin;refine aM _ rfl (.tmp 8) (.tmp 9) 61 rfl i0 (.string ⟨#[]⟩) 16 (H 1) (aD d.constants) Tryz.underlying61 hi hz0 hz1 hz2 rfl Nat.one_pos rfl hown ⟨g8,0,none⟩ d.symbols.length (H 8).cap (dO d.symbols) rfl ?c0 hsrc.out (ku _) hm ?c3 ?c4 ?_)
  case c0=>simp[dO,aD]
  case c3=>simp only[aD];unfold maxLen;omega
  case c4=>simp only[aD];omega
  ·intro g cap' w1 hw1 hgr hfresh
   obtain⟨k0,f0,HP⟩:=h.app (d':={ d with constants:=d.constants++d.symbols }) o 1 ho 1 (by omega) g cap' ((aD d.constants).n+d.symbols.length) _ hw1 (om d.constants d.symbols) hgr hfresh (uu d H _) (by omega) _ rfl (by simp[bU,fM,aD]);clear hown q0 q1 q2 q3 q4 q5 q6 q7 q8 q9 q10 q11 q12 hw1 hgr hfresh hfr hsrc;go_wp2;go_end0;exact⟨rfl,_,HP.out.1,HP.out.2⟩
def dA(v l:List ByteArray):List ByteArray:=l.foldl (fun v x=>if aI v x=true then v else v++[x]) v
def dP(d:Db)(k:Nat):Db:={ d with active:=d.active++d.symbols,variables:=dA d.variables (d.symbols.take k) }
theorem Fg(v l:List ByteArray)(x:ByteArray):dA v (l++[x])=if aI (dA v l) x=true then dA v l else dA v l++[x]:=by
 unfold dA;rw[List.foldl_append];rfl
theorem zU(v l:List ByteArray):(dA v l).length<=v.length+l.length:=by
 induction l generalizing v with
 | nil=>simp[dA]
 | cons x l ih =>
  have:=ih (if aI v x=true then v else v++[x]);have e:dA v (x :: l)=dA (if aI v x=true then v else v++[x]) l:=rfl;rw[e];have h2:(if aI v x=true then v else v++[x]).length<=v.length+1:=by split <;> simp
  simp only[List.length_cons];omega
theorem mn{α:Type}(l:List α)(k:Nat)(h:k<l.length):l.take (k+1)=l.take k++[l[k]]:=by simp
set_option maxRecDepth 100000 in
theorem qE(b t o:Nat)(pre post:List Value)(d:Db)(H:Nat->Hd)(w:World)(h:aN w b t pre post d H)(ho:pre.length=o)(hm:0<d.symbols.length)(hs:eR d 100000000) :
  Calls Tryz.prog 266 #[.pointer (some ⟨b,o,none⟩),.slice (H 8).ao d.symbols.length (H 8).cap] w fun e w'=>e=.returned (.tuple #[])/\∃H',aN w' b t pre post (dP d d.symbols.length) H'/\aw b w H w' H':=by
 obtain⟨i0,hi,hz0,hz1,hz2⟩:=info_parts jI;obtain⟨q0,q1,q2,q3,q4,q5,q6,q7,q8,q9,q10,q11,q12⟩:=h.cells o ho;have hfr:=h.free;have hbw:=h.lt;have hown:=h.own 3;have hw8:aA w (H 8) (aD d.symbols):=h.own 8;have hl1:=hs.active;have hl2:=hs.symbols;have hl3:=hs.variables
 rcases hw8.ways with ⟨_,h0,_⟩ | ⟨g8,cur8,e8,_⟩
 ·have:d.symbols.length=0:=h0
  omega
 ·rw[e8]
  have hsrc:Hid (∀j u,(dO d.symbols)[j]?=some u->w.cell? ((⟨g8,0,none⟩:Addr).add j)=some u):=fun j u hj=>by rw[bK];exact hw8.cell e8 j u hj
  clear hw8;go_enter Tryz.func266,Tryz.ntmps266;go_wp2_with (at_builtin;refine aM _ rfl (.tmp 9) (.tmp 10) 61 rfl i0 (.string ⟨#[]⟩) 16 (H 3) (aD d.active) Tryz.underlying61 hi hz0 hz1 hz2 rfl Nat.one_pos rfl hown ⟨g8,0,none⟩ d.symbols.length (H 8).cap (dO d.symbols) rfl ?c0 hsrc.out (ku _) hm ?c3 ?c4 ?_)
  case c0=>simp[dO,aD]
  case c3=>simp only[aD];unfold maxLen;omega
  case c4=>simp only[aD];omega
  ·intro g cap' w1 hw1 hgr hfresh
   obtain⟨k0,f0,HP⟩:=h.app (d':=dP d 0) o 3 ho 3 (by omega) g cap' ((aD d.active).n+d.symbols.length) _ hw1 (om d.active d.symbols) hgr hfresh (rT d H _) (by omega) _ rfl (by simp[bU,fM,aD,dP,dA]);clear hown q0 q1 q2 q3 q4 q5 q6 q7 q8 q9 q10 q11 q12 hw1 hgr hfresh hfr hsrc;go_wp2
   go_loopg [4] d.symbols.length (fun g i wr=>∃(k:Nat) (H1:Nat->Hd),k<=d.symbols.length/\g=d.symbols.length-k/\i=.int .i64 k/\H1 8=H 8/\aN wr b t pre post (dP d k) H1/\aw b w H wr H1)
   case atStart=>exact⟨0,_,by omega,by omega,rfl,by simp[fM],HP.out.1,HP.out.2⟩
   case round =>
    obtain⟨k,H1,hk,hg,rfl,h8,D,T⟩:=hrel;clear HP k0 f0
    by_cases hlt:k<d.symbols.length
    ·obtain⟨q0,q1,q2,q3,q4,q5,q6,q7,q8,q9,q10,q11,q12⟩:=D.cells o ho
     have hw8:aA wr (H 8) (aD d.symbols):=by have:=D.own 8;rw[h8]at this;exact this
     have c1:=hw8.cell e8 k (.string d.symbols[k]) (qu d.symbols k hlt)
     have hvl:(dP d k).variables.length<=1073741824:=by
      have:=zU d.variables (d.symbols.take k);simp only[List.length_take]at this
      show(dA d.variables (d.symbols.take k)).length<=_
      omega
     have hfr:=D.free
     have HS:Hid (dP d (k+1)=if aI (dP d k).variables d.symbols[k]=true then dP d k else { dP d k with variables:=(dP d k).variables++[d.symbols[k]] }):=by
      show dP d (k+1)=_
      unfold dP;rw[mn d.symbols k hlt,Fg];simp only
      split <;> rfl
     generalize dP d k=dk at *;generalize d.symbols[k]=x at *;clear q0 q1 q3 q4 q5 q6 q7 q8 q9 q10 q11 q12 hw8
     cases hb:aI dk.variables x
     ·have HT:Hid (dP d (k+1)={ dk with variables:=dk.variables++[x] }):=by show dP d (k+1)=_;rw[HS.out];simp[hb]
      clear HS;go_wp2_with fail
      go_quiet ((go_at_call 253;exact Calls.quiet_of_same (dS (H1 2) dk.variables x _ (D.still ((ab.refl [] _).drewN _) |>.own 2) hvl)))
      obtain⟨wq,hwq⟩:∃wq,wq=wr.drewN nq:=⟨_,rfl⟩
      rw[<-hwq];have D2:aN wq b t pre post dk H1:=by rw[hwq];exact D.still ((ab.refl [] _).drewN _)
      have T2:aw b w H wq H1:=by rw[hwq];exact T.still ((ab.refl [] _).drewN _)
      have c1q:wq.cell? ⟨g8,k,none⟩=some (.string x):=by rw[hwq];exact c1
      clear hwq c1 D T hfr q2;obtain⟨q0,q1,q2,q3,q4,q5,q6,q7,q8,q9,q10,q11,q12⟩:=D2.cells o ho;have hfr:=D2.free;have hbq:=D2.lt;clear q0 q1 q3 q4 q5 q6 q7 q8 q9 q10 q11 q12;have hD:Hid (aN (wq.alloc (.cells #[.string x] 9)).drew b t pre post dk H1):=D2.still ((ab.refl [] wq).alloc _).drew
      have s2:Hid (∀j u,([.string x]:List Value)[j]?=some u->(wq.alloc (.cells #[.string x] 9)).drew.cell? ((⟨wq.heap.size,0,none⟩:Addr).add j)=some u):=by
       intro j u hj;have hk:(wq.alloc (.cells #[.string x] 9)).drew.heap[wq.heap.size]?=some (.cells #[.string x] 9 (0,0)):=heap_alloc_new wq _;rw[bK,aa hk];simpa using hj
      have s3:Hid (∀u∈([.string x]:List Value),u.oneCell'=true):=by intro u hu;simp at hu;subst hu;rfl
      have s4:Hid ((aD dk.variables).n+1<=maxLen):=by show _<=_;simp only[aD];unfold maxLen;omega
      have s5:Hid (((aD dk.variables).n+1)*16<=140737488355328):=by show _<=_;simp only[aD];omega
      go_wp2_with fail
      go_region_law (refine ce rfl (.tmp 34) (.tmp 39) 61 rfl i0 (.string ⟨#[]⟩) 16 (H1 2) (aD dk.variables) Tryz.underlying61 hi hz0 hz1 hz2 rfl Nat.one_pos (by simp[Act.eval] <;> rfl) (hD.out.own 2) ⟨wq.heap.size,0,none⟩ 1 1 [.string x] (by simp[Act.eval]) rfl s2.out s3.out Nat.one_pos s4.out s5.out ?_;intro g cap' w1 hw1 hgr hfresh;obtain⟨k5,f5,HP⟩:=hD.out.app (d':={ dk with variables:=dk.variables++[x] }) o 2 ho 2 (by omega) g cap' ((aD dk.variables).n+1) _ hw1 (dV dk.variables x) hgr (by simpa using hfresh) (ux dk H1 _) (by omega) _ rfl (by simp[bU,fM,aD]);clear hw1 hgr hfresh)
      all_goals go_wp2
      all_goals
       go_roundg (d.symbols.length-(k+1))
       case measure=>omega
       case rel=>exact⟨k+1,_,by omega,rfl,by go_num,by simp[fM,h8],by rw[HT.out];exact HP.out.1,T2.trans (HP.out.2.first ((ab.refl [] _).alloc _).drew)⟩
     ·have HT:Hid (dP d (k+1)=dk):=by show dP d (k+1)=_;rw[HS.out];simp[hb]
      clear HS;go_wp2_with fail
      go_quiet ((go_at_call 253;exact Calls.quiet_of_same (dS (H1 2) dk.variables x _ (D.still ((ab.refl [] _).drewN _) |>.own 2) hvl)))
      go_wp2
      go_roundg (d.symbols.length-(k+1))
      case measure=>omega
      case rel=>exact⟨k+1,H1,by omega,rfl,by go_num,h8,by rw[HT.out];exact D.still ((ab.refl [] _).drewN _),T.still ((ab.refl [] _).drewN _)⟩
    ·have e:k=d.symbols.length:=by omega
     subst e;go_wp2;go_end0;exact⟨rfl,H1,D,T⟩
def iz(n:Int):Bool:=(decide (97<=n)&&decide (n<=122))||(decide (65<=n)&&decide (n<=90))||(decide (48<=n)&&decide (n<=57))||n==45||n==95||n==46
def fB(s:ByteArray):Bool:=(List.range s.size).all (fun i=>iz (aF s i))
theorem ng(n:Int)(w:World) :
  Calls Tryz.prog 275 #[.int .u8 n] w fun e w'=>e=.returned (.bool (iz n))/\w'=w:=by
 by_cases h1:(97<=n/\n<=122)∨(65<=n/\n<=90)∨(48<=n/\n<=57)
 ·have HL:Hid (iz n=true):=by show iz n=true;simp only[iz,Bool.or_eq_true,Bool.and_eq_true,decide_eq_true_eq];omega
  rcases h1 with h1 | h1 | h1
  all_goals
   go_enter Tryz.func275,Tryz.ntmps275;go_wp2;go_ret;exact⟨aB HL.out.symm,rfl⟩
 ·have HL:Hid (iz n=(n==45||n==95||n==46)):=by
   show iz n=_
   have e1:(decide (97<=n)&&decide (n<=122))=false:=by simp;omega
   have e2:(decide (65<=n)&&decide (n<=90))=false:=by simp;omega
   have e3:(decide (48<=n)&&decide (n<=57))=false:=by simp;omega
   simp only[iz,e1,e2,e3,Bool.false_or]
  go_enter Tryz.func275,Tryz.ntmps275;go_wp2
  all_goals go_ret
  all_goals (refine⟨aB ?_,rfl⟩;first | rfl | (rw[HL.out];done) | (rw[HL.out];simp[*];done))
theorem Ai{n:Nat}{p:Nat->Bool}(i:Nat)(h:i<n)(hp:p i=false):(List.range n).all p=false:=by
 rw[List.all_eq_false];exact⟨i,by simpa using h,by simp[hp]⟩
theorem wJ{n:Nat}{p:Nat->Bool}(h:∀i,i<n->p i=true):(List.range n).all p=true:=by
 rw[List.all_eq_true];intro i hi;exact h i (by simpa using hi)
theorem lG(s:ByteArray)(w:World)(hs:s.size<=1073741824) :
  Calls Tryz.prog 263 #[.string s] w fun e w'=>e=.returned (.bool (fB s))/\w'=w:=by
 go_enter Tryz.func263,Tryz.ntmps263;go_wp2
 go_loopg [3] s.size (fun g i wr=>∃k:Nat,k<=s.size/\g=s.size-k/\i=.int .i64 k/\Hid (∀i,i<k->iz (aF s i)=true)/\wr=w)
 case atStart=>exact⟨0,by omega,by omega,rfl,fun i h=>by omega,rfl⟩
 case round =>
  obtain⟨k,hk,hg,rfl,hall,rfl⟩:=hrel
  by_cases hlt:k<s.size
  ·cases hb:iz (s[k].toNat:Int)
   ·have HY:Hid (fB s=false):=Ai k hlt (by rw[bI s k hlt];exact hb)
    go_wp2_with fail;refine(ng _ _).mono ?_;rintro e w1 ⟨rfl,rfl⟩;go_wp2;go_ret;exact⟨aB HY.out.symm,rfl⟩
   ·go_wp2_with fail
    refine(ng _ _).mono ?_;rintro e w1 ⟨rfl,rfl⟩;go_wp2
    go_roundg (s.size-(k+1))
    case measure=>omega
    case rel =>
     refine⟨k+1,by omega,rfl,by go_num,?_,rfl⟩;intro i hi
     by_cases e:i=k
     ·subst e;rw[bI s i hlt];exact hb
     ·exact hall.out i (by omega)
  ·have HY:Hid (fB s=true):=wJ (fun i hi=>hall.out i (by omega))
   go_wp2;go_ret;exact⟨aB HY.out.symm,rfl⟩
theorem jp(b t o:Nat)(pre post:List Value)(d:Db)(H:Nat->Hd)(x:ByteArray)(w:World)(h:aN w b t pre post d H)(ho:pre.length=o)(hl:d.active.length<=1073741824) :
  Calls Tryz.prog 269 #[.pointer (some ⟨b,o,none⟩),.string x] w fun e w'=>e=.returned (.bool (aI d.active x))/\w'=w:=by
 obtain⟨q0,q1,q2,q3,q4,q5,q6,q7,q8,q9,q10,q11,q12⟩:=h.cells o ho;go_enter Tryz.func269,Tryz.ntmps269;go_wp2_with fail;refine(dS (H 3) d.active x _ (by exact h.own 3) hl).mono ?_;rintro e w1 ⟨rfl,rfl⟩;go_wp2;go_ret;exact⟨rfl,rfl⟩
theorem li(b t o:Nat)(pre post:List Value)(d:Db)(H:Nat->Hd)(x:ByteArray)(w:World)(h:aN w b t pre post d H)(ho:pre.length=o)(hl:d.constants.length<=1073741824) :
  Calls Tryz.prog 270 #[.pointer (some ⟨b,o,none⟩),.string x] w fun e w'=>e=.returned (.bool (aI d.constants x))/\w'=w:=by
 obtain⟨q0,q1,q2,q3,q4,q5,q6,q7,q8,q9,q10,q11,q12⟩:=h.cells o ho;go_enter Tryz.func270,Tryz.ntmps270;go_wp2_with fail;refine(dS (H 1) d.constants x _ (by exact h.own 1) hl).mono ?_;rintro e w1 ⟨rfl,rfl⟩;go_wp2;go_ret;exact⟨rfl,rfl⟩
theorem lH(b t o:Nat)(pre post:List Value)(d:Db)(H:Nat->Hd)(x:ByteArray)(w:World)(h:aN w b t pre post d H)(ho:pre.length=o)(hl:d.typed.length<=1073741824) :
  Calls Tryz.prog 271 #[.pointer (some ⟨b,o,none⟩),.string x] w fun e w'=>e=.returned (.bool (aI d.typed x))/\w'=w:=by
 obtain⟨q0,q1,q2,q3,q4,q5,q6,q7,q8,q9,q10,q11,q12⟩:=h.cells o ho;go_enter Tryz.func271,Tryz.ntmps271;go_wp2_with fail;refine(dS (H 4) d.typed x _ (by exact h.own 4) hl).mono ?_;rintro e w1 ⟨rfl,rfl⟩;go_wp2;go_ret;exact⟨rfl,rfl⟩
def dm(d:Db)(x:ByteArray):Bool:=aI d.labels x||aI d.constants x||aI d.variables x
def dE(d:Db)(x:ByteArray):Bool:=aI d.labels x||aI d.constants x||aI d.active x
theorem ko(b t o:Nat)(pre post:List Value)(d:Db)(H:Nat->Hd)(x:ByteArray)(w:World)(h:aN w b t pre post d H)(ho:pre.length=o)(hs:eR d 1073741824) :
  Calls Tryz.prog 254 #[.pointer (some ⟨b,o,none⟩),.string x] w fun e w'=>e=.returned (.bool (dm d x))/\w'=w:=by
 obtain⟨q0,q1,q2,q3,q4,q5,q6,q7,q8,q9,q10,q11,q12⟩:=h.cells o ho
 cases h1:aI d.labels x
 ·cases h2:aI d.constants x
  ·have HT:Hid (dm d x=aI d.variables x):=by show dm d x=_;simp[dm,h1,h2]
   go_enter Tryz.func254,Tryz.ntmps254;go_wp2_with fail;refine(dS (H 0) d.labels x _ (by exact h.own 0) hs.labels).mono ?_;rintro e w1 ⟨rfl,rfl⟩;go_wp2_with fail;refine(dS (H 1) d.constants x _ (by exact h.own 1) hs.constants).mono ?_;rintro e w1 ⟨rfl,rfl⟩;go_wp2_with fail;refine(dS (H 2) d.variables x _ (by exact h.own 2) hs.variables).mono ?_;rintro e w1 ⟨rfl,rfl⟩;go_wp2;go_ret;exact⟨aB (by rw[HT.out]),rfl⟩
  ·have HT:Hid (dm d x=true):=by show dm d x=_;simp[dm,h1,h2]
   go_enter Tryz.func254,Tryz.ntmps254;go_wp2_with fail;refine(dS (H 0) d.labels x _ (by exact h.own 0) hs.labels).mono ?_;rintro e w1 ⟨rfl,rfl⟩;go_wp2_with fail;refine(dS (H 1) d.constants x _ (by exact h.own 1) hs.constants).mono ?_;rintro e w1 ⟨rfl,rfl⟩;go_wp2;go_ret;exact⟨aB (by rw[HT.out]),rfl⟩
 ·have HT:Hid (dm d x=true):=by show dm d x=_;simp[dm,h1]
  go_enter Tryz.func254,Tryz.ntmps254;go_wp2_with fail;refine(dS (H 0) d.labels x _ (by exact h.own 0) hs.labels).mono ?_;rintro e w1 ⟨rfl,rfl⟩;go_wp2;go_ret;exact⟨aB (by rw[HT.out]),rfl⟩
theorem xg(b t o:Nat)(pre post:List Value)(d:Db)(H:Nat->Hd)(x:ByteArray)(w:World)(h:aN w b t pre post d H)(ho:pre.length=o)(hs:eR d 1073741824) :
  Calls Tryz.prog 255 #[.pointer (some ⟨b,o,none⟩),.string x] w fun e w'=>e=.returned (.bool (dE d x))/\w'=w:=by
 obtain⟨q0,q1,q2,q3,q4,q5,q6,q7,q8,q9,q10,q11,q12⟩:=h.cells o ho
 cases h1:aI d.labels x
 ·cases h2:aI d.constants x
  ·have HT:Hid (dE d x=aI d.active x):=by show dE d x=_;simp[dE,h1,h2]
   go_enter Tryz.func255,Tryz.ntmps255;go_wp2_with fail;refine(dS (H 0) d.labels x _ (by exact h.own 0) hs.labels).mono ?_;rintro e w1 ⟨rfl,rfl⟩;go_wp2_with fail;refine(dS (H 1) d.constants x _ (by exact h.own 1) hs.constants).mono ?_;rintro e w1 ⟨rfl,rfl⟩;go_wp2_with fail;refine(dS (H 3) d.active x _ (by exact h.own 3) hs.active).mono ?_;rintro e w1 ⟨rfl,rfl⟩;go_wp2;go_ret;exact⟨aB (by rw[HT.out]),rfl⟩
  ·have HT:Hid (dE d x=true):=by show dE d x=_;simp[dE,h1,h2]
   go_enter Tryz.func255,Tryz.ntmps255;go_wp2_with fail;refine(dS (H 0) d.labels x _ (by exact h.own 0) hs.labels).mono ?_;rintro e w1 ⟨rfl,rfl⟩;go_wp2_with fail;refine(dS (H 1) d.constants x _ (by exact h.own 1) hs.constants).mono ?_;rintro e w1 ⟨rfl,rfl⟩;go_wp2;go_ret;exact⟨aB (by rw[HT.out]),rfl⟩
 ·have HT:Hid (dE d x=true):=by show dE d x=_;simp[dE,h1]
  go_enter Tryz.func255,Tryz.ntmps255;go_wp2_with fail;refine(dS (H 0) d.labels x _ (by exact h.own 0) hs.labels).mono ?_;rintro e w1 ⟨rfl,rfl⟩;go_wp2;go_ret;exact⟨aB (by rw[HT.out]),rfl⟩
theorem kn(b t o:Nat)(pre post:List Value)(d:Db)(H:Nat->Hd)(w:World)(h:aN w b t pre post d H)(ho:pre.length=o) :
  Calls Tryz.prog 207 #[.pointer (some ⟨b,o,none⟩)] w fun e w'=>e=.returned (.bool (decide (0<d.blocks.length)))/\w'=w:=by
 obtain⟨q0,q1,q2,q3,q4,q5,q6,q7,q8,q9,q10,q11,q12⟩:=h.cells o ho;go_enter Tryz.func207,Tryz.ntmps207;go_wp2;go_ret;exact⟨rfl,rfl⟩
def je(d:Db):Bool:=d.kind != 0||decide (0<d.blocks.length)
theorem qd(b t o:Nat)(pre post:List Value)(d:Db)(H:Nat->Hd)(w:World)(h:aN w b t pre post d H)(ho:pre.length=o) :
  Calls Tryz.prog 158 #[.pointer (some ⟨b,o,none⟩)] w fun e w'=>e=.returned (.bool (je d))/\w'=w:=by
 obtain⟨q0,q1,q2,q3,q4,q5,q6,q7,q8,q9,q10,q11,q12⟩:=h.cells o ho
 cases hk:(d.kind != 0)
 ·have HT:Hid (je d=decide (0<d.blocks.length)):=by show je d=_;simp only[je,hk,Bool.false_or]
  go_enter Tryz.func158,Tryz.ntmps158;go_wp2_with fail;refine(kn b t o pre post d H _ h ho).mono ?_;rintro e w1 ⟨rfl,rfl⟩;go_wp2;go_ret;exact⟨aB (by rw[HT.out]),rfl⟩
 ·have HT:Hid (je d=true):=by show je d=_;simp only[je,hk,Bool.true_or]
  go_enter Tryz.func158,Tryz.ntmps158;go_wp2_with fail;go_ret;exact⟨aB (by rw[HT.out]),rfl⟩
def lj(d:Db):Int:=if(d.kind==1)=true∨(d.kind==2)=true then 2 else 1
theorem qU(b t o:Nat)(pre post:List Value)(d:Db)(H:Nat->Hd)(w:World)(h:aN w b t pre post d H)(ho:pre.length=o) :
  Calls Tryz.prog 251 #[.pointer (some ⟨b,o,none⟩)] w fun e w'=>e=.returned (.int .i64 (lj d))/\w'=w:=by
 obtain⟨q0,q1,q2,q3,q4,q5,q6,q7,q8,q9,q10,q11,q12⟩:=h.cells o ho
 cases h4:(d.kind==1)
 ·cases h5:(d.kind==2)
  all_goals
   have HT:Hid (lj d=if(d.kind==1)=true∨(d.kind==2)=true then 2 else 1):=rfl;go_enter Tryz.func251,Tryz.ntmps251;go_wp2;go_ret;exact⟨am (by rw[HT.out,h4,h5];simp),rfl⟩
 ·have HT:Hid (lj d=2):=by show lj d=_;simp only[lj,h4];simp
  go_enter Tryz.func251,Tryz.ntmps251;go_wp2;go_ret;exact⟨am (by rw[HT.out]),rfl⟩
theorem Dz(hd:Hd)(l:List ByteArray)(c:Nat)(w:World)(ho:aA w hd (aD l))(hc:c<=1073741824) :
  Calls Tryz.prog 262 #[.slice hd.ao l.length hd.cap,.int .i64 c] w fun e w'=>e=.returned (.slice hd.ao (if c<=l.length then c else l.length) hd.cap)/\w'=w:=by
 obtain⟨ao,cap⟩:=hd
 by_cases hle:c<=l.length
 ·rcases ho.ways with ⟨e0,h0,_⟩ | ⟨g,cur,e1,e2,e3,e4,_⟩
  ·have h0':l.length=0:=h0
   have hc0:c=0:=by omega
   subst hc0
   injection e0 with e0 e2
   subst e0 e2;simp only[if_pos hle];rw[h0'];clear ho h0 hle h0' hc;go_enter Tryz.func262,Tryz.ntmps262;go_wp2;go_ret;exact⟨rfl,rfl⟩
  ·simp only at e1 e3 e4
   have e3':l.length<=cap:=e3;unfold maxLen at e4;subst e1;simp only[if_pos hle];go_enter Tryz.func262,Tryz.ntmps262;go_wp2;go_ret;exact⟨rfl,rfl⟩
 ·simp only[if_neg hle]
  go_enter Tryz.func262,Tryz.ntmps262;go_wp2;go_ret;exact⟨rfl,rfl⟩
theorem aA.cut{w:World}{h:Hd}{l:List ByteArray}(o:aA w h (aD l))(c:Nat)(hc:c<=l.length):aA w h (aD (l.take c)):=by
 have hlen:(l.take c).length=c:=by simp;omega
 rcases o.ways with ⟨e0,h0,_⟩ | ⟨g,cur,e1,e2,e3,e4,e5,e6⟩
 ·have h0':l.length=0:=h0
  have:c=0:=by omega
  subst this;subst e0;exact⟨by simp[aD,dO],Or.inl ⟨by simp[aD],by simp[aD]⟩⟩
 ·obtain⟨ao,cap⟩:=h
  simp only at e1 e3 e4 e5;subst e1;refine⟨by simp[aD,dO],Or.inr ⟨g,cap,cur,rfl,Nat.zero_le _,e2,?_,e4,e5,?_⟩⟩
  ·have:l.length<=cap:=e3
   simp only[aD];omega
  ·have e6':cur.toList.take (l.length*1)=dO l:=e6
   simp only[aD,hlen];have:dO (l.take c)=(dO l).take c:=by simp[dO,List.map_take]
   rw[this,<-e6',List.take_take]
   congr 1
   omega
theorem Ln:(Tryz.prog.info? 337).map (fun i=>(i.zero,i.size,i.bytes))=some (some (.agg #[.int .i64 0,.int .i64 0]),2,16):=by kernel_rfl
theorem pq(l:List (Nat×Nat))(x:Nat×Nat):nL (l++[x])=nL l++[.int .i64 x.1,.int .i64 x.2]:=by simp[nL]
theorem EK(l:List (Nat×Nat))(x:Nat×Nat):(⟨(mb l).e,(mb l).size,(mb l).n+1,(mb l).xs++[.int .i64 x.1,.int .i64 x.2]⟩:dK)=mb (l++[x]):=by
 simp[mb,pq]
set_option maxRecDepth 100000 in
theorem sZ(b t o:Nat)(pre post:List Value)(d:Db)(H:Nat->Hd)(w:World)(h:aN w b t pre post d H)(ho:pre.length=o)(hl:d.blocks.length<=1073741824) :
  Calls Tryz.prog 246 #[.pointer (some ⟨b,o,none⟩)] w fun e w'=>e=.returned (.tuple #[])/\∃H',aN w' b t pre post { d with blocks:=d.blocks++[(d.active.length,d.typed.length)] } H'/\aw b w H w' H':=by
 obtain⟨i0,hi,hz0,hz1,hz2⟩:=info_parts Ln;obtain⟨q0,q1,q2,q3,q4,q5,q6,q7,q8,q9,q10,q11,q12⟩:=h.cells o ho;have hfr:=h.free;have hbw:=h.lt;have hD:Hid (aN (w.alloc (.cells #[.int .i64 d.active.length,.int .i64 d.typed.length] 337)).drew b t pre post d H):=h.still ((ab.refl [] w).alloc _).drew
 have s2:Hid (∀j u,([.int .i64 d.active.length,.int .i64 d.typed.length]:List Value)[j]?=some u->(w.alloc (.cells #[.int .i64 d.active.length,.int .i64 d.typed.length] 337)).drew.cell? ((⟨w.heap.size,0,none⟩:Addr).add j)=some u):=by
  intro j u hj;rw[bK];have hk:(w.alloc (.cells #[.int .i64 d.active.length,.int .i64 d.typed.length] 337)).drew.heap[w.heap.size]?=some (.cells #[.int .i64 d.active.length,.int .i64 d.typed.length] 337 (0,0)):=heap_alloc_new _ _;rw[aa hk];simpa using hj
 have s3:Hid (∀u∈([.int .i64 d.active.length,.int .i64 d.typed.length]:List Value),u.oneCell'=true):=by
  intro u hu;simp at hu
  rcases hu with rfl | rfl <;> rfl
 have s4:Hid ((mb d.blocks).n+1<=maxLen):=by show _<=_;simp only[mb];unfold maxLen;omega
 have s5:Hid (((mb d.blocks).n+1)*16<=140737488355328):=by show _<=_;simp only[mb];omega
 clear h;go_enter Tryz.func246,Tryz.ntmps246;go_wp2_with fail
 go_region_law (refine ce rfl (.tmp 6) (.tmp 18) 194 rfl i0 (.agg #[.int .i64 0,.int .i64 0]) 16 (H 5) (mb d.blocks) Tryz.underlying194 hi hz0 hz1 hz2 rfl Nat.two_pos (by simp[Act.eval] <;> rfl) (hD.out.own 5) ⟨w.heap.size,0,none⟩ 1 1 [.int .i64 d.active.length,.int .i64 d.typed.length] (by simp[Act.eval]) rfl s2.out s3.out Nat.one_pos s4.out s5.out ?_;intro g cap' w1 hw1 hgr hfresh;obtain⟨k5,f5,HP⟩:=hD.out.app (d':={ d with blocks:=d.blocks++[(d.active.length,d.typed.length)] }) o 5 ho 5 (by omega) g cap' ((mb d.blocks).n+1) _ hw1 (EK d.blocks (d.active.length,d.typed.length)) hgr (by simpa using hfresh) (rU d H _) (by omega) _ rfl (by simp[bU,fM,mb]);clear hw1 hgr hfresh)
 all_goals go_wp2
 all_goals go_end0
 all_goals exact⟨rfl,_,HP.out.1,HP.out.2.first ((ab.refl [] w).alloc _).drew⟩
theorem mO(l:List (Nat×Nat)):(nL l).length=l.length*2:=by
 induction l with
 | nil=>rfl
 | cons a r ih=>simp only[nL,List.flatMap_cons,List.length_append,List.length_cons,List.length_nil]at *;omega
theorem ud(l:List (Nat×Nat))(x:Nat×Nat):(nL (l++[x]))[l.length*2]?=some (.int .i64 x.1)/\(nL (l++[x]))[l.length*2+1]?=some (.int .i64 x.2):=by
 rw[pq];have:=mO l
 constructor
 ·rw[List.getElem?_append_right (by omega),this];simp
 ·rw[List.getElem?_append_right (by omega),this];simp
theorem aA.pop{w:World}{h:Hd}{l:List (Nat×Nat)}{x:Nat×Nat}(o:aA w h (mb (l++[x]))):aA w h (mb l):=by
 rcases o.ways with ⟨e0,h0,_⟩ | ⟨g,cur,e1,e2,e3,e4,e5,e6⟩
 ·have h0':(l++[x]).length=0:=h0
  simp at h0'
 ·obtain⟨ao,cap⟩:=h
  simp only at e1 e3 e4 e5;subst e1;have e3':(l++[x]).length<=cap:=e3;simp at e3';refine⟨by simp only[mb];exact mO l,Or.inr ⟨g,cap,cur,rfl,Nat.zero_le _,e2,?_,e4,e5,?_⟩⟩
  ·simp only[mb];omega
  ·have e6':cur.toList.take ((l++[x]).length*2)=nL (l++[x]):=e6
   simp only[mb];have e7:nL l=(nL (l++[x])).take (l.length*2):=by rw[pq,List.take_left' (mO l)]
   rw[e7,<-e6',List.take_take]
   congr 1
   simp
def cU(d:Db)(bl:List (Nat×Nat))(x:Nat×Nat):Db:={ d with blocks:=bl,active:=d.active.take x.1,typed:=d.typed.take x.2 }
theorem Ii(l:List ByteArray)(c:Nat):(l.take c).length=if c<=l.length then c else l.length:=by
 rw[List.length_take];split <;> omega
theorem aA.taken{w:World}{h:Hd}{l:List ByteArray}(o:aA w h (aD l))(c:Nat):aA w h (aD (l.take c)):=by
 by_cases hc:c<=l.length
 ·exact o.cut c hc
 ·rw[List.take_of_length_le (by omega)];exact o
theorem tM(hd:Hd)(l:List ByteArray)(c m:Nat)(w:World)(hm:Hid ((l.take c).length=m))(ho:aA w hd (aD l))(hc:c<=1073741824) :
  Calls Tryz.prog 262 #[.slice hd.ao l.length hd.cap,.int .i64 c] w fun e w'=>e=.returned (.slice hd.ao m hd.cap)/\w'=w:=by
 have e:m=if c<=l.length then c else l.length:=by rw[<-hm.out,Ii]
 rw[e];exact Dz hd l c w ho hc
theorem n8(i cell:Nat){w:World}{b t o:Nat}{pre post:List Value}{d d':Db}{H:Nat->Hd}(h:aN w b t pre post d H)(ho:pre.length=o)(hi:i<10)(ow:aA w (H i) (aP d' H i))
  (hrow:∀j,j≠i->aP d' H j=aP d H j) (u:Value) (hc:cell<13) (hl:(bU d H).set cell u=bU d' (fM H i (H i))) :
  aN (w.setCell ⟨b,o+cell,none⟩ u) b t pre post d' H/\aw b w H (w.setCell ⟨b,o+cell,none⟩ u) H:=by
 have hu:=Ip H i;have:=h.put (d':=d') o cell ho i hi (H i) ow (World.grownBy.refl _ _) (Or.inr (Or.inl rfl)) hrow u hc hl;rw[hu]at this;exact this
set_option maxRecDepth 100000 in
theorem wU(b t o:Nat)(pre post:List Value)(d:Db)(H:Nat->Hd)(bl:List (Nat×Nat))(x:Nat×Nat)(w:World)(h:aN w b t pre post d H)(ho:pre.length=o)(hbl:d.blocks=bl++[x])
  (hs:eR d 1073741824) (hx:x.1<=1073741824/\x.2<=1073741824) :
  Calls Tryz.prog 248 #[.pointer (some ⟨b,o,none⟩)] w fun e w'=>e=.returned (.tuple #[])/\aN w' b t pre post (cU d bl x) H/\aw b w H w' H:=by
 obtain⟨q0,q1,q2,q3,q4,q5,q6,q7,q8,q9,q10,q11,q12⟩:=h.cells o ho;obtain⟨x1,x2⟩:=x;simp only at hx;have hfr:=h.free;have hbw:=h.lt;have hw5:=h.own 5;have hw5':aA w (H 5) (mb (bl++[(x1,x2)])):=by have:=hw5;simp only[aP,hbl]at this;exact this
 have hlen:=hs.blocks;rw[hbl]at hlen q5;simp only[List.length_append,List.length_cons,List.length_nil]at hlen q5
 rcases hw5'.ways with ⟨e0,h0,_⟩ | ⟨g,cur,e1,e2,e3,e4,e5,e6⟩
 ·have h0':(bl++[(x1,x2)]).length=0:=h0
  simp at h0'
 ·have p1:=hw5'.cell e1 (bl.length*2) _ (ud bl (x1,x2)).1
  have p2:=hw5'.cell e1 (bl.length*2+1) _ (ud bl (x1,x2)).2;have hcap:bl.length+1<=(H 5).cap:=by have:(bl++[(x1,x2)]).length<=(H 5).cap:=e3;simpa using this
  have hcap2:(H 5).cap<=9223372036854775807:=by unfold maxLen at e4;exact e4
  have hg:=ae e2;have P1:=n8 5 5 (d':={ d with blocks:=bl }) h ho (by omega) hw5'.pop (rU d H bl) (.slice (some ⟨g,0,none⟩) bl.length (H 5).cap) (by omega) (by simp[bU,fM,e1]);obtain⟨w2,hw2⟩:∃w2,w2=(w.setCell ⟨b,o+5,none⟩ (.slice (some ⟨g,0,none⟩) bl.length (H 5).cap)).alloc (.cells #[.int .i64 x1,.int .i64 x2] 337):=⟨_,rfl⟩
  have D2:aN w2 b t pre post { d with blocks:=bl } H:=by rw[hw2];exact P1.1.still ((ab.refl [] _).alloc _)
  have T2:aw b w H w2 H:=by rw[hw2];exact P1.2.still ((ab.refl [] _).alloc _)
  have B2:w2.heap[w.heap.size]?=some (.cells #[.int .i64 x1,.int .i64 x2] 337 (0,0)):=by
   rw[hw2];have:=heap_alloc_new (w.setCell ⟨b,o+5,none⟩ (.slice (some ⟨g,0,none⟩) bl.length (H 5).cap)) (.cells #[.int .i64 x1,.int .i64 x2] 337);simpa [World.setCell] using this
  have HW:Hid ((w.setCell ⟨b,o+5,none⟩ (.slice (some ⟨g,0,none⟩) bl.length (H 5).cap)).alloc (.cells #[.int .i64 x1,.int .i64 x2] 337)=w2):=hw2.symm;have HL2:=hs.active;have HL3:=hs.typed;rw[e1]at q5;simp only at p1 p2;clear hw5 hw5' e3 e4 e5 e6 e2 h P1 hw2;go_enter Tryz.func248,Tryz.ntmps248
  go_upto_region 4 with fail
  rw[HW.out];have c0:w2.cell? ⟨w.heap.size,0,none⟩=some (.int .i64 x1):=by rw[aa B2];rfl
  have c1:w2.cell? ⟨w.heap.size,1,none⟩=some (.int .i64 x2):=by rw[aa B2];rfl
  have hne:w.heap.size≠b:=by omega
  have hB2:=ae B2;clear HW q0 q1 q2 q3 q4 q5 q6 q7 q8 q9 q10 q11 q12 p1 p2 hfr hg;obtain⟨q0,q1,q2,q3,q4,q5,q6,q7,q8,q9,q10,q11,q12⟩:=D2.cells o ho;have hfr:=D2.free;obtain⟨m1,hm1⟩:∃m,Hid ((d.active.take x1).length=m):=⟨_,rfl⟩
  obtain⟨m2,hm2⟩:∃m,Hid ((d.typed.take x2).length=m):=⟨_,rfl⟩
  have P3:=n8 3 3 (d':={ d with blocks:=bl,active:=d.active.take x1 }) D2 ho (by omega) ((D2.own 3).taken x1) (rT { d with blocks:=bl } H (d.active.take x1)) (.slice (H 3).ao m1 (H 3).cap) (by omega) (by simp only[bU,cK,<-hm1.out];rfl);obtain⟨w3,hw3⟩:∃w3,w3=(w2.setCell ⟨b,o+3,none⟩ (.slice (H 3).ao m1 (H 3).cap)).drew:=⟨_,rfl⟩
  have D3:Hid (aN w3 b t pre post { d with blocks:=bl,active:=d.active.take x1 } H):=by rw[hw3];exact P3.1.still (ab.refl [] _).drew
  have T3:Hid (aw b w H w3 H):=by rw[hw3];exact T2.trans (P3.2.still (ab.refl [] _).drew)
  have B3:Hid (w3.heap[w.heap.size]?=some (.cells #[.int .i64 x1,.int .i64 x2] 337 (0,0))):=by
   show w3.heap[w.heap.size]?=_
   rw[hw3];exact(Below.heap_setCell w2 ⟨b,o+3,none⟩ (.slice (H 3).ao m1 (H 3).cap) w.heap.size hne).trans B2
  have HW3:Hid ((w2.setCell ⟨b,o+3,none⟩ (.slice (H 3).ao m1 (H 3).cap)).drew=w3):=hw3.symm;clear hw3 P3
  go_region_with (go_at_call 262;refine(tM (H 3) d.active x1 m1 _ hm1 (by exact D2.own 3) hx.1).mono ?_;rintro e w3 ⟨rfl,rfl⟩)
  all_goals go_upto_region 5 with fail
  all_goals rw[HW3.out]
  all_goals
   clear HW3 q0 q1 q2 q3 q4 q5 q6 q7 q8 q9 q10 q11 q12 hfr D2 T2 B2 c0 c1 hB2;have c0:w3.cell? ⟨w.heap.size,0,none⟩=some (.int .i64 x1):=by rw[aa B3.out];rfl
   have c1:w3.cell? ⟨w.heap.size,1,none⟩=some (.int .i64 x2):=by rw[aa B3.out];rfl
   obtain⟨q0,q1,q2,q3,q4,q5,q6,q7,q8,q9,q10,q11,q12⟩:=D3.out.cells o ho;have hfr:=D3.out.free;have P4:=n8 4 4 (d':=cU d bl (x1,x2)) D3.out ho (by omega) ((D3.out.own 4).taken x2) (uw { d with blocks:=bl,active:=d.active.take x1 } H (d.typed.take x2)) (.slice (H 4).ao m2 (H 4).cap) (by omega) (by simp only[bU,cU,cK,<-hm2.out];rfl);have HP4:=(show Hid _ from P4);clear P4
   go_region_with (go_at_call 262;refine(tM (H 4) d.typed x2 m2 _ hm2 (by exact D3.out.own 4) hx.2).mono ?_;rintro e w3 ⟨rfl,rfl⟩)
   all_goals go_wp2
   all_goals go_end0
   all_goals exact⟨rfl,HP4.out.1.still (ab.refl [] _).drew,T3.out.trans (HP4.out.2.still (ab.refl [] _).drew)⟩
theorem yK{α:Type}(f:α->List Value)(n:Nat)(hf:∀a,(f a).length=n)(l:List α):(l.flatMap f).length=l.length*n:=by
 induction l with
 | nil=>simp
 | cons a l ih=>simp only[List.flatMap_cons,List.length_append,hf,ih,List.length_cons];rw[Nat.add_mul];omega
theorem yJ{α:Type}(f:α->List Value)(n:Nat)(hf:∀a,(f a).length=n)(l:List α)(i j:Nat)(hi:i<l.length)(hj:j<n):(l.flatMap f)[i*n+j]?=(f l[i])[j]?:=by
 induction l generalizing i with
 | nil=>simp at hi
 | cons a l ih =>
  rw[List.flatMap_cons]
  cases i with
  | zero=>rw[List.getElem?_append_left (by rw[hf];omega)];simp
  | succ i =>
   have e:(i+1)*n+j=n+(i*n+j):=by rw[Nat.add_mul];omega
   rw[List.getElem?_append_right (by rw[hf,e];omega),hf,e,show n+(i*n+j)-n=i*n+j by omega];exact ih i (by simpa using hi)
theorem Gk{α:Type}(f:α->List Value)(n:Nat)(hf:∀a,(f a).length=n)(l:List α)(i j:Nat)(hi:i<l.length)(hj:j<n)(a':α)(v:Value)(ha:f a'=(f l[i]).set j v) :
  (l.flatMap f).set (i*n+j) v=(l.set i a').flatMap f:=by
 induction l generalizing i with
 | nil=>simp at hi
 | cons a l ih =>
  cases i with
  | zero =>
   rw[List.set_cons_zero,List.flatMap_cons,List.flatMap_cons,List.set_append_left _ _ (by rw[hf];omega),ha];simp
  | succ i =>
   have e:(i+1)*n+j=n+(i*n+j):=by rw[Nat.add_mul];omega
   rw[List.set_cons_succ,List.flatMap_cons,List.flatMap_cons,List.set_append_right _ _ (by rw[hf,e];omega),hf,e,show n+(i*n+j)-n=i*n+j by omega];rw[ih i (by simpa using hi) (by simpa using ha)]
theorem Ib(l:List St)(H:Nat->Hd):(kR l H).length=l.length*8:=by
 unfold kR;rw[yK _ 8 (fun _=>rfl)];simp
theorem Ch(l:List (ByteArray×Pl)):(lU l).length=l.length*4:=yK _ 4 (fun _=>rfl) l
theorem C3(l:List St)(H:Nat->Hd)(i:Nat)(hi:i<l.length)(j:Nat)(hj:j<8):(kR l H)[i*8+j]?=(E1 l[i] (H (10+2*i)) (H (11+2*i)))[j]?:=by
 unfold kR;rw[yJ _ 8 (fun _=>rfl) _ i j (by simpa using hi) hj];simp
theorem Fl(l:List (ByteArray×Pl))(i:Nat)(hi:i<l.length)(j:Nat)(hj:j<4):(lU l)[i*4+j]?=(oR l[i])[j]?:=yJ _ 4 (fun _=>rfl) l i j hi hj
theorem Fb(l:List St)(s:St)(H:Nat->Hd):kR (l++[s]) H=kR l H++E1 s (H (10+2*l.length)) (H (11+2*l.length)):=by
 unfold kR;rw[List.zipIdx_append];simp
theorem Ck(l:List St)(i:Nat)(s:St):(l.set i s).zipIdx=l.zipIdx.set i (s,i):=by
 apply List.ext_getElem?
 intro j;simp only[List.getElem?_zipIdx,List.getElem?_set,List.length_zipIdx]
 by_cases e:i=j
 ·subst e
  by_cases hi:i<l.length <;> simp[hi]
 ·simp[e]
theorem Ic(l:List St)(H:Nat->Hd)(i:Nat)(hi:i<l.length)(N:Nat):(kR l H).set (i*8+7) (.int .i64 N)=kR (l.set i { l[i] with til:=N }) H:=by
 unfold kR;rw[Ck];exact Gk _ 8 (fun _=>rfl) _ i 7 (by simpa using hi) (by omega) _ _ (by simp[E1])
theorem zK(l:List ByteArray):(dO l).length=l.length*1:=by simp[dO]
theorem vZ(l:List Nat)(x:Nat):iW (l++[x])=iW l++[.int .i64 x]:=by simp[iW]
theorem kV(l:List Nat)(x:Nat):(⟨(bq l).e,(bq l).size,(bq l).n+1,(bq l).xs++[.int .i64 x]⟩:dK)=bq (l++[x]):=by simp[bq,vZ]
theorem vS:(Tryz.prog.info? 3).map (fun i=>(i.zero,i.size,i.bytes))=some (some (.int .i64 0),1,8):=by kernel_rfl
def CH(k:Int):Bool:=k==4||k==5
theorem dr(k:Int)(a1 a2 a3 a4 a5 a6 a7:Value)(w:World) :
  Calls Tryz.prog 160 #[.agg #[.int .i64 k,a1,a2,a3,a4,a5,a6,a7]] w fun e w'=>e=.returned (.bool (CH k))/\ab [] w w':=by
 cases h4:(k==4)
 ·have HT:Hid (CH k=(k==5)):=by show CH k=_;simp only[CH,h4,Bool.false_or]
  go_enter Tryz.func160,Tryz.ntmps160;go_wp2;go_ret;exact⟨aB (by rw[HT.out]),(ab.refl _ _).alloc _⟩
 ·have HT:Hid (CH k=true):=by show CH k=_;simp only[CH,h4,Bool.true_or]
  go_enter Tryz.func160,Tryz.ntmps160;go_wp2;go_ret;exact⟨aB (by rw[HT.out]),(ab.refl _ _).alloc _⟩
set_option maxRecDepth 100000 in
theorem xB(b t o:Nat)(pre post:List Value)(d:Db)(H:Nat->Hd)(w:World)(h:aN w b t pre post d H)(ho:pre.length=o)(hs:eR d 100000000) :
  Calls Tryz.prog 247 #[.pointer (some ⟨b,o+6,none⟩)] w fun e w'=>e=.returned (.tuple #[])/\∃H',aN w' b t pre post { d with rbl:=d.rbl++[d.sts.length] } H'/\aw b w H w' H':=by
 obtain⟨i0,hi,hz0,hz1,hz2⟩:=info_parts vS;obtain⟨q0,q1,q2,q3,q4,q5,q6,q7,q8,q9,q10,q11,q12⟩:=h.cells o ho;clear q0 q1 q2 q3 q4 q5 q8 q9 q10 q11 q12;have hfr:=h.free;have hbw:=h.lt;have hl1:=hs.rbl;have hD:Hid (aN (w.alloc (.cells #[.int .i64 d.sts.length] 3)).drew b t pre post d H):=h.still ((ab.refl [] w).alloc _).drew
 have s2:Hid (∀j u,([.int .i64 d.sts.length]:List Value)[j]?=some u->(w.alloc (.cells #[.int .i64 d.sts.length] 3)).drew.cell? ((⟨w.heap.size,0,none⟩:Addr).add j)=some u):=by
  intro j u hj;have hk:(w.alloc (.cells #[.int .i64 d.sts.length] 3)).drew.heap[w.heap.size]?=some (.cells #[.int .i64 d.sts.length] 3 (0,0)):=heap_alloc_new _ _;rw[bK,aa hk];simpa using hj
 have s3:Hid (∀u∈([.int .i64 d.sts.length]:List Value),u.oneCell'=true):=by intro u hu;simp at hu;subst hu;rfl
 have s4:Hid ((bq d.rbl).n+1<=maxLen):=by show _<=_;simp only[bq];unfold maxLen;omega
 have s5:Hid (((bq d.rbl).n+1)*8<=140737488355328):=by show _<=_;simp only[bq];omega
 clear h;go_enter Tryz.func247,Tryz.ntmps247;go_wp2_with fail
 go_region_law (refine ce rfl (.tmp 6) (.tmp 12) 26 rfl i0 (.int .i64 0) 8 (H 7) (bq d.rbl) Tryz.underlying26 hi hz0 hz1 hz2 rfl Nat.one_pos (by simp[Act.eval] <;> rfl) (hD.out.own 7) ⟨w.heap.size,0,none⟩ 1 1 [.int .i64 d.sts.length] (by simp[Act.eval]) rfl s2.out s3.out Nat.one_pos s4.out s5.out ?_;intro g cap' w1 hw1 hgr hfresh;obtain⟨k5,f5,HP⟩:=hD.out.app (d':={ d with rbl:=d.rbl++[d.sts.length] }) o 7 ho 7 (by omega) g cap' ((bq d.rbl).n+1) _ hw1 (kV d.rbl _) hgr (by simpa using hfresh) (zz d H _) (by omega) _ rfl (by simp[bU,fM,bq]);clear hw1 hgr hfresh)
 all_goals go_wp2
 all_goals go_end0
 all_goals exact⟨rfl,_,HP.out.1,HP.out.2.first ((ab.refl [] w).alloc _).drew⟩
end Go.Proofs.YtpddjjabfbfifaaGreat
