import Derived.Test.YtnbalopedcgpcaaGreatChecked
import Derived.WalkKit
import Derived.WalkSpells
import Derived.WalkLawsBesides
import Derived.Deep.QuietTactic
import Derived.BigQuiet
import Derived.Deep.LoopGhost
import Derived.Laws.CopyRow
import Derived.Laws.MakeOwn
import Derived.Deep.RegionLaw
namespace Go.Proofs.YtnbalopedcgpcaaGreat
open Go.RowKit Tryz
open Value renaming int->Xx,string->Xy,slice->Xz,pointer->XA,agg->XB,bool->XC,tuple->XD
open Obj renaming cells->XE
open IntKind renaming i64->XF,u8->XG
open Ending renaming returned->XH
open World renaming cell?->XI
open Option renaming none->XJ,some->XK
open Bool renaming true->XL,false->XM
open Go.RowKit renaming Hid->XN
open Go renaming Calls->XO,World->XP,Value->XQ
set_option maxHeartbeats 0
variable{D:List Nat}{l v:XP}{H x:Nat}{m:Array XQ}{z3:Obj}{M:Program}{s c z0:XQ}{t:Bool}{L o:ByteArray}{I:List XQ}{z2:Array Oper}{N:Oper}{g:Act}{z4:Exit->Act->XP->Prop}(i:ByteArray)(d y:Nat)(T w:ByteArray)(z1:Int)(n:XP)(f:Nat)
abbrev PJ:=@List.getElem?_eq_getElem
abbrev PK:=@List.getD_eq_getElem?_getD
abbrev PM:=@Go.heap_alloc_new
abbrev PQ:=@Nat.le_refl
abbrev PR:=@List.getElem?_append_left
abbrev PT:=@List.getElem_mem
abbrev PU:=@Go.Calls.mono
abbrev PV:=@if_neg
abbrev PY:=@Nat.lt_of_lt_of_le
abbrev PZ:=@if_pos
abbrev P0:=@Or.inl
abbrev P7:=@Or.inr
abbrev P9:=@Go.RowKit.Below.heap_setCell
abbrev Qa:=@List.length_append
abbrev Qb:=@List.getElem?_append_right
abbrev Qc:=@List.getElem?_eq_some_iff
abbrev Qd:=@ByteArray.size_append
abbrev Qe:=@List.mem_range
abbrev Qf:=@Nat.one_pos
abbrev Qg:=@Go.bodyPost_ret
abbrev Qh:=@List.length_map
abbrev Qi:=@beq_eq_false_iff_ne
abbrev Qj:=@Go.World.ownsRow_nil
abbrev Qk:=@Nat.le_trans
abbrev Ql:=@List.eq_nil_of_length_eq_zero
abbrev Qm:=@List.mem_of_find?_eq_some
abbrev Qn:=@List.mem_singleton
abbrev Qo:=@List.mem_append
abbrev Qp:=@List.mem_of_getElem?
abbrev Qq:=@Go.info_parts
abbrev Qr:=@List.drop_eq_getElem_cons
abbrev Qt:=@List.getElem?_map
abbrev Qu:=@List.mem_map
abbrev Qv:=@List.mem_cons_of_mem
abbrev Qw:=@Bool.and_eq_true
abbrev Qx:=@Nat.zero_le
abbrev Qy:=@Go.World.cell?_of_block
abbrev Qz:=@Option.some.inj
abbrev QA:=@List.map_append
abbrev QB:=@Array.getElem?_setIfInBounds
abbrev QC:=@Go.Calls.quiet_of_same
abbrev QD:=@List.filter_append
abbrev QE:=@List.take_succ_eq_append_getElem
abbrev QF:=@Go.ByteArray.toList_eq
abbrev QG:=@List.length_cons
abbrev QH:=@List.flatMap_cons
abbrev QI:=@Bool.false_eq_true
abbrev QJ:=@List.take_length
abbrev QK:=@List.append_nil
abbrev QL:=@List.mem_filter
abbrev QM:=@List.range_succ
abbrev QN:=@List.getElem_of_mem
abbrev QO:=@List.filterMap_cons
abbrev QP:=@List.getElem?_eq_none
abbrev QQ:=@List.setIfInBounds_toArray
abbrev QR:=@List.all_eq_true
abbrev QS:=@ByteArray.data_append
abbrev QT:=@Nat.add_zero
abbrev QU:=@Nat.le_of_lt
abbrev QV:=@Go.size_madeCells
abbrev QW:=@List.length_take
abbrev QX:=@List.map_congr_left
abbrev QY:=@List.append_assoc
abbrev QZ:=@Nat.add_sub_cancel_left
abbrev Q0:=@List.filterMap_append
abbrev Q1:=@List.flatMap_append
abbrev Q3:=@Nat.mul_le_mul
abbrev Q4:=@List.drop_of_length_le
abbrev Q5:=@List.mem_cons
abbrev Q6:=@List.length_filter_le
abbrev Q7:=@List.foldl_cons
abbrev Q8:=@decide_eq_true_eq
abbrev Q9:=@List.ext_getElem?
abbrev Ra:=@List.length_singleton
abbrev Rb:=@List.foldl_append
abbrev Rc:=@List.find?_eq_none
abbrev Rd:=@Option.map_some
abbrev Re:=@Go.IntKind.wrap_i64
abbrev Rf:=@List.getElem?_cons_succ
abbrev Rg:=@Go.wp_loop_rounds
abbrev Rh:=@List.length_nil
abbrev Ri:=@List.not_mem_nil
abbrev Rj:=@ByteArray.size_extract
abbrev Rk:=@List.length_drop
abbrev Rl:=@Nat.sub_self
abbrev Rm:=@beq_self_eq_true
abbrev Rn:=@Array.getElem?_eq_getElem
abbrev Ro:=@Classical.byContradiction
abbrev Rp:=@List.find?_some
abbrev Rq:=@List.mem_filterMap
abbrev Rr:=@LawfulBEq.eq_of_beq
abbrev Rs:=@List.getElem?_cons_zero
abbrev Rt:=@ByteArray.getElem_eq_getElem_data
abbrev Ru:=@List.map_cons
abbrev Rv:=@List.any_eq_false
abbrev Rx:=@List.filter_eq_nil_iff
abbrev Ry:=@ByteArray.append_assoc
abbrev Rz:=@ByteArray.getElem_extract
abbrev RB:=@List.set_append_right
abbrev RC:=@List.take_append_drop
abbrev RG:=@if_false
abbrev RH:=@List.contains_iff_mem
abbrev RI:=@List.mem_flatMap
abbrev RK:=@Nat.succ_pos
abbrev RM:=@Go.rounds_succ
abbrev RO:=@List.getElem?_mapIdx
abbrev RQ:=@List.mem_append_left
abbrev RS:=@Nat.mul_le_mul_right
abbrev RT:=@List.filter_congr
abbrev RU:=@Nat.le_mul_of_pos_right
abbrev RV:=@List.nil_append
abbrev RY:=@decide_eq_false
abbrev RZ:=@List.mem_map_of_mem
abbrev R0:=@List.getD_cons_succ
abbrev R1:=@Nat.lt_or_ge
abbrev R2:=@List.map_map
abbrev R4:=@List.flatMap_singleton
abbrev R6:=@Nat.mul_comm
abbrev R7:=@List.any_cons
abbrev R8:=@Nat.lt_irrefl
abbrev R9:=@List.getElem?_set
abbrev Sa:=@Nat.le_succ
abbrev Sb:=@List.mem_of_mem_take
abbrev Sc:=@Nat.lt_trichotomy
abbrev Sd:=@Bool.false_or
abbrev Se:=@List.length_filterMap_le
abbrev Sf:=@List.take_of_length_le
abbrev Sg:=@if_true
abbrev Sh:=@List.getElem?_drop
abbrev Si:=@List.getElem?_dropLast
abbrev Sj:=@Nat.add_assoc
abbrev Sk:=@List.cons.inj
abbrev Sl:=@Classical.choose_spec
abbrev Sm:=@ByteArray.ext_getElem
abbrev Sn:=@Int.toNat_natCast
abbrev So:=@List.set_append_left
abbrev Sp:=@List.take_take
abbrev Sq:=@Bool.or_eq_false_iff
abbrev Sr:=@List.mem_of_mem_drop
abbrev Ss:=@List.getElem?_of_mem
abbrev Su:=@Array.toList_inj
abbrev Sv:=@Nat.zero_add
abbrev Sw:=@List.getElem?_range
abbrev Sx:=@List.map_take
abbrev Sy:=@ByteArray.ext
abbrev Sz:=@List.getElem?_take_of_lt
abbrev SA:=@Nat.pos_of_mul_pos_right
abbrev SB:=@List.any_append
abbrev SD:=@Nat.min_eq_left
abbrev SE:=@Nat.not_lt_zero
abbrev SG:=@Bool.eq_iff_iff
abbrev SJ:=@List.filter_map
abbrev SL:=@Nat.add_mul
abbrev SM:=@List.getElem?_replicate
abbrev SN:=@Nat.pos_of_mul_pos_left
abbrev SO:=@List.filter_cons_of_pos
abbrev SQ:=@or_false
abbrev SS:=@List.foldl_nil
abbrev SU:=@Option.some.injEq
abbrev SV:=@decide_eq_true
abbrev SW:=@Array.getElem?_setIfInBounds_ne
abbrev SZ:=@List.any_eq_true
abbrev Ta:=@List.flatMap_def
abbrev Tb:=@Bool.or_false
abbrev Tc:=@Bool.true_and
abbrev Td:=@List.getLast?_eq_some_getLast
abbrev Te:=@List.length_dropLast
abbrev Tf:=@List.dropLast_subset
abbrev Tg:=@ByteArray.getElem_append_left
abbrev Th:=@Nat.mul_one
abbrev Ti:=@List.getElem?_set_ne
abbrev Tj:=@List.take_append_of_le_length
abbrev Tk:=@Nat.div_lt_of_lt_mul
abbrev Tl:=@List.length_set
abbrev Tm:=@List.getD_cons_zero
abbrev Tn:=@List.map_set
abbrev To:=@Nat.le_of_eq
abbrev Tp:=@List.take_length_add_append
abbrev Tq:=@List.map_nil
abbrev Tr:=@Nat.zero_mul
abbrev Ts:=@Go.World.grownBy.refl
abbrev Tt:=@List.set_cons_zero
abbrev Tu:=@List.set_cons_succ
abbrev Tv:=@Array.toList_setIfInBounds
abbrev Tw:=@Bool.false_and
abbrev Tx:=@Int.tmod_lt_of_pos
abbrev Ty:=@List.getElem_range
abbrev Tz:=@List.getLast?_eq_getElem?
abbrev TA:=@List.pairwise_iff_getElem
abbrev TE:=@List.getElem_append_right
abbrev TF:=@List.all_eq_false
abbrev TG:=@List.length_range
abbrev TH:=@List.find?_append
abbrev TI:=@List.find?_range_eq_some
abbrev TJ:=@List.getElem_append_left
abbrev TM:=@decide_eq_false_iff_not
abbrev TN:=@List.ext_getElem
abbrev TO:=@List.cons_append
abbrev TP:=@Int.eq_ofNat_of_zero_le
abbrev TQ:=@Nat.div_eq_of_lt
abbrev TT:=@List.flatMap_map
abbrev TU:=@List.countP_cons_of_pos
abbrev TY:=@List.filter_cons_of_neg
abbrev TZ:=@Bool.true_or
abbrev Ua:=@beq_iff_eq
abbrev Ub:=@Nat.mul_zero
abbrev Uc:=@Bool.or_eq_true
abbrev Ud:=@List.find?_cons
abbrev Ue:=@Int.tmod_nonneg
abbrev Uf:=@Nat.mul_add_div
abbrev Ug:=@Bool.and_false
abbrev Uh:=@List.take_zero
abbrev Ui:=@List.range_add
abbrev Uj:=@Nat.mul_pos
abbrev Uk:=@List.take_set
abbrev Ul:=@List.all_cons
abbrev Fs:=List (ByteArray×ByteArray)
structure aa(S:List Nat)(w w':XP):Prop where
 os:w'.os=w.os
 tape:w'.tape=w.tape
 output:w'.output=w.output
 size:w.heap.size<=w'.heap.size
 block:∀k,k<w.heap.size->k∉S->w'.heap[k]?=w.heap[k]?
theorem aa.refl(S:List Nat)(w:XP):aa S w w:=⟨rfl,rfl,rfl,PQ _,fun _ _ _=>rfl⟩
theorem aa.trans{c:XP}(h:aa D l v)(k:aa D v c):aa D l c :=
 ⟨k.os.trans h.os,k.tape.trans h.tape,k.output.trans h.output,Qk h.size k.size,
  fun i a b=>(k.block i (PY a h.size) b).trans (h.block i a b)⟩
theorem aa.mono{S':List Nat}(h:aa D l v)(b:∀k,k∈D->k<l.heap.size->k∈S'):aa S' l v :=
 ⟨h.os,h.tape,h.output,h.size,fun k a d=>h.block k a (fun c=>d (b k c a))⟩
theorem aa.drew(h:aa D l v):aa D l v.drew:=⟨h.os,h.tape,h.output,h.size,h.block⟩
theorem aa.drewN(h:aa D l v)(n:Nat):aa D l (v.drewN n):=⟨h.os,h.tape,h.output,h.size,h.block⟩
theorem aa.alloc(h:aa D l v)(o:Obj):aa D l (v.alloc o) :=
 h.trans ⟨rfl,rfl,rfl,by simp,fun k a _=>Below.heap_alloc _ _ _ a⟩
theorem aa.setCell(h:aa D l v){p:Addr}(a:p.block∈D∨l.heap.size<=p.block)(u:XQ):aa D l (v.setCell p u) :=
 ⟨h.os,h.tape,h.output,by have:=h.size;simp[World.setCell];omega,fun k c b=>by
  rw[P9 _ _ _ _ (by rintro rfl;exact a.elim b (fun a=>by omega))];exact h.block k c b⟩
theorem ab(h:l.heap[H]?=XK (XE m x))(i:Nat):XI l ⟨H,i,XJ⟩=m[i]?:=by
 unfold World.cell?;simp[h]
theorem aw(h:l.heap[H]?=XK (XE m x))(i:Nat):l.frozen? ⟨H,i,XJ⟩=XM:=by
 unfold World.frozen?;simp[h]
theorem af(h:l.heap[H]?=XK (XE m x))(i:Nat)(u:XQ) :
  (l.setCell ⟨H,i,XJ⟩ u).heap[H]?=XK (XE (m.setIfInBounds i u) x):=by
 simp[World.setCell,Array.getElem?_modify,h]
theorem ae(h:l.heap[H]?=XK z3):H<l.heap.size:=by
 rcases R1 H l.heap.size with a | a
 ·exact a
 ·rw[Array.getElem?_eq_none a]at h;simp at h
theorem xk{f:FuncId}(h:XO M f m (l.drewN (H+x)) fun e a=>e=XH s/\a=l.drewN (H+x)) :
  XO M f m (l.drewN (H+x)) fun e a=>e=XH s/\∃n,a=l.drewN (H+n) :=
 h.mono fun _ _ b=>⟨b.1,x,b.2⟩
theorem aH{b:Bool}(h:t=b):Ending.returned (XC t)=XH (XC b):=by rw[h]
theorem ay{k:IntKind}{a b:Int}(h:a=b):Ending.returned (Xx k a)=XH (Xx k b):=by rw[h]
theorem eD{a b:ByteArray}(h:a.toList=b.toList):a=b:=by
 rw[QF,QF]at h;cases a;cases b
 simp only[Array.toList_inj]at h;rw[h]
theorem ed(h:(L.toList==o.toList)=XL):L=o:=eD (by simpa using h)
theorem mn(h:L=o):(L.toList==o.toList)=XL:=by rw[h];simp
def cc(n:Int):Bool:=n==32||n==9||n==10||n==12||n==13
def dQ(n:Int):Bool:=decide (33<=n)&&decide (n<=126)
theorem gQ :
  XO prog 166 #[Xx XG z1] n fun e a=>e=XH (XC (cc z1))/\a=n:=by
 go_enter func166,ntmps166;go_wp2
 all_goals go_ret
 all_goals (refine⟨?_,rfl⟩;simp[cc, *])
theorem ll :
  XO prog 169 #[Xx XG z1] n fun e a=>e=XH (XC (dQ z1))/\a=n:=by
 go_enter func169,ntmps169;go_wp2
 all_goals go_ret
 all_goals (refine⟨?_,rfl⟩;first | (simp[dQ, *];done) | (simp[dQ];omega))
def ar(d:ByteArray)(k:Nat):Int:=if h:k<d.size then((d[k]'h).toNat:Int) else 0
theorem aY(h:f<w.size):ar w f=((w[f]'h).toNat:Int):=by unfold ar;rw[dif_pos h]
def aL(d:ByteArray):Nat->Int
 | 0=>1
 | k+1=>if ar d k==10 then aL d k+1 else aL d k
def bA(d:ByteArray):Nat->Int
 | 0=>1
 | k+1=>if ar d k==10 then 1 else bA d k+1
theorem rL(k:Nat):1<=aL w k/\aL w k<=k+1:=by
 induction k with
 | zero=>simp[aL]
 | succ k a=>simp only[aL];split <;> omega
theorem Hw(k:Nat):1<=bA w k/\bA w k<=k+1:=by
 induction k with
 | zero=>simp[bA]
 | succ k a=>simp only[bA];split <;> omega
def jd(n d:ByteArray)(k:Nat):Array XQ:=#[Xy n,Xy d,Xx XF k,Xx XF (aL d k),Xx XF (bA d k)]
def bF(w:XP)(b:Nat)(n d:ByteArray)(k:Nat):Prop:=w.heap[b]?=XK (XE (jd n d k) 242)
theorem bF.cells(h:bF l H L o x) :
  XI l ⟨H,0,XJ⟩=XK (Xy L)/\XI l ⟨H,1,XJ⟩=XK (Xy o)/\XI l ⟨H,2,XJ⟩=XK (Xx XF x) /\
  XI l ⟨H,3,XJ⟩=XK (Xx XF (aL o x))/\XI l ⟨H,4,XJ⟩=XK (Xx XF (bA o x)):=by
 refine⟨?_,?_,?_,?_,?_⟩ <;> (rw[ab h];rfl)
theorem bF.kept{S:List Nat}(h:bF l H L o x)(b:aa S l v)(a:H∉S):bF v H L o x :=
 (b.block H (ae h) a).trans h
theorem aa.get(b:aa D l v)(h:l.heap[H]?=XK z3)(a:H∉D):v.heap[H]?=XK z3 :=
 (b.block H (ae h) a).trans h
theorem xx(h:bF l H L o x)(d:x<o.size)(c:((o[x].toNat:Int)==10)=XL)(m:Nat) :
  bF (((((l.drewN m).setCell ⟨H,3,XJ⟩ (Xx XF (aL o x+1))).setCell ⟨H,4,XJ⟩ (Xx XF 0)).setCell ⟨H,4,XJ⟩ (Xx XF 1)).setCell ⟨H,2,XJ⟩ (Xx XF ((x:Int)+1))) H L o (x+1):=by
 have a:(l.drewN m).heap[H]?=XK (XE (jd L o x) 242):=h;have b:=af (af (af (af a 3 (Xx XF (aL o x+1))) 4 (Xx XF 0)) 4 (Xx XF 1)) 2 (Xx XF ((x:Int)+1));unfold bF;rw[b];simp[jd,aL,bA,aY o x d,c]
theorem rx(h:bF l H L o x)(d:x<o.size)(c:((o[x].toNat:Int)==10)=XM)(m:Nat) :
  bF (((l.drewN m).setCell ⟨H,4,XJ⟩ (Xx XF (bA o x+1))).setCell ⟨H,2,XJ⟩ (Xx XF ((x:Int)+1))) H L o (x+1):=by
 have a:(l.drewN m).heap[H]?=XK (XE (jd L o x) 242):=h;have b:=af (af a 4 (Xx XF (bA o x+1))) 2 (Xx XF ((x:Int)+1));unfold bF;rw[b];simp[jd,aL,bA,aY o x d,c]
theorem Ao(q:w.size<=1024)(a:y<w.size)(h:bF n d T w y) :
  XO prog 167 #[XA (XK ⟨d,0,XJ⟩)] n fun e b=>e=XH (XD #[])/\bF b d T w (y+1)/\aa [d] n b:=by
 obtain⟨g,i,j,k,l⟩:=h.cells;have m:=aw h 2;have o:=aw h 3;have p:=aw h 4;have f:=rL w y;have c:=Hw w y;go_enter func167,ntmps167;go_wp2;go_quiet (fail);go_wp2;go_quiet (fail);go_wp2
 all_goals go_end0
 all_goals refine⟨rfl,?_,?_⟩
 ·exact xx h a (by assumption) _
 ·exact((((((aa.refl _ _).drewN _).setCell (P0 (by simp)) _).setCell (P0 (by simp)) _).setCell (P0 (by simp)) _).setCell (P0 (by simp)) _)
 ·exact rx h a (by assumption) _
 ·exact((((aa.refl _ _).drewN _).setCell (P0 (by simp)) _).setCell (P0 (by simp)) _)
theorem vA(h:bF n d T w y) :
  XO prog 168 #[XA (XK ⟨d,0,XJ⟩)] n fun e a=>e=XH (XB #[Xy T,Xx XF (aL w y),Xx XF (bA w y)])/\aa [] n a:=by
 obtain⟨b,c,f,g,i⟩:=h.cells;have j:=ae h;go_enter func168,ntmps168;go_wp2;go_region
 all_goals go_wp2
 exact Qg (v:=XB #[Xy T,Xx XF (aL w y),Xx XF (bA w y)]) (by simp[results,results168,go_sem]) rfl ⟨rfl,((aa.refl _ _).alloc _).drew⟩
def ml(d:ByteArray):Nat->Nat->Nat
 | 0,k=>k
 | f+1,k=>if k<d.size/\cc (ar d k)=XL then ml d f (k+1) else k
def skip(d:ByteArray)(k:Nat):Nat:=ml d (d.size-k) k
def jt(d:ByteArray):Nat->Nat->Nat
 | 0,k=>k
 | f+1,k=>if k<d.size/\cc (ar d k)=XM/\dQ (ar d k)=XL then jt d f (k+1) else k
def bn(d:ByteArray)(k:Nat):Nat:=jt d (d.size-k) k
theorem kO(h:f<w.size)(a:cc (ar w f)=XL):skip w f=skip w (f+1):=by
 unfold skip;rw[show w.size-f=(w.size-(f+1))+1 by omega];rw[ml,PZ ⟨h,a⟩]
theorem iL(h:¬(f<w.size/\cc (ar w f)=XL)):skip w f=f:=by
 unfold skip;cases w.size-f with
 | zero=>rfl
 | succ a=>rw[ml,PV h]
theorem rS(h:f<w.size)(a:cc (ar w f)=XM)(b:dQ (ar w f)=XL):bn w f=bn w (f+1):=by
 unfold bn;rw[show w.size-f=(w.size-(f+1))+1 by omega];rw[jt,PZ ⟨h,a,b⟩]
theorem il(h:¬(f<w.size/\cc (ar w f)=XM/\dQ (ar w f)=XL)):bn w f=f:=by
 unfold bn;cases w.size-f with
 | zero=>rfl
 | succ a=>rw[jt,PV h]
theorem vK(f k:Nat):k<=ml w f k/\(k<=w.size->ml w f k<=w.size):=by
 induction f generalizing k with
 | zero=>simp[ml]
 | succ f a =>
  rw[ml];split
  ·have:=a (k+1);omega
  ·omega
theorem vX(f k:Nat):k<=jt w f k/\(k<=w.size->jt w f k<=w.size):=by
 induction f generalizing k with
 | zero=>simp[jt]
 | succ f a =>
  rw[jt];split
  ·have:=a (k+1);omega
  ·omega
theorem jH(h:f<=w.size):f<=skip w f/\skip w f<=w.size:=⟨(vK w _ f).1,(vK w _ f).2 h⟩
theorem gM(h:f<=w.size):f<=bn w f/\bn w f<=w.size:=⟨(vX w _ f).1,(vX w _ f).2 h⟩
structure oq where
 text:ByteArray
 rule:Int
 fin:Bool
 pos:Nat
def dZ(n d:ByteArray)(i:oq):XQ:=XB #[Xy i.text,Xx XF i.rule,XC i.fin,Xy n,Xx XF (aL d i.pos),Xx XF (bA d i.pos)]
def aU(d:ByteArray)(k:Nat):oq×Nat :=
 let a:=skip d k
 let z:=bn d a
 if z<d.size/\cc (ar d z)=XM then(⟨⟨#[]⟩,1,XM,z⟩,z)
 else if z<=a then(⟨⟨#[]⟩,0,XL,a⟩,z)
 else(⟨d.extract a z,0,XM,a⟩,z)
theorem JE(b:y=skip i d)(g:bn i f=bn i y)(j:f<i.size)(a:cc (ar i f)=XM)(c:dQ (ar i f)=XM) :
  aU i d=(⟨⟨#[]⟩,1,XM,f⟩,f):=by
 have e:bn i (skip i d)=f:=by rw[<-b,<-g];exact il i f (fun h=>by simp[c]at h)
 simp only[aU,e];rw[PZ ⟨j,a⟩]
theorem JF(a:y=skip i d)(c:bn i f=bn i y)(b:¬(f<i.size/\cc (ar i f)=XM))(g:f<=y) :
  aU i d=(⟨⟨#[]⟩,0,XL,y⟩,f):=by
 have e:bn i (skip i d)=f:=by rw[<-a,<-c];exact il i f (fun h=>b ⟨h.1,h.2.1⟩)
 simp only[aU,e];rw[PV b,<-a,PZ g]
theorem vH(a:y=skip i d)(c:bn i f=bn i y)(b:¬(f<i.size/\cc (ar i f)=XM))(g:y<f) :
  aU i d=(⟨i.extract y f,0,XM,y⟩,f):=by
 have e:bn i (skip i d)=f:=by rw[<-a,<-c];exact il i f (fun h=>b ⟨h.1,h.2.1⟩)
 simp only[aU,e];rw[PV b,<-a,PV (by omega)]
theorem GM :
  (∃h:f<w.size,cc ((w[f]'h).toNat:Int)=XM/\dQ ((w[f]'h).toNat:Int)=XL/\bn w (f+1)=bn w f) ∨
  (∃h:f<w.size,cc ((w[f]'h).toNat:Int)=XM/\dQ ((w[f]'h).toNat:Int)=XM) ∨
  (∃h:f<w.size,cc ((w[f]'h).toNat:Int)=XL)∨(¬f<w.size/\decide ((f:Int)<(w.size:Int))=XM):=by
 by_cases h:f<w.size
 ·have e:=aY w f h;cases a:cc (ar w f) with
  | true=>exact P7 (P7 (P0 ⟨h,e ▸ a⟩))
  | false =>
   cases b:dQ (ar w f) with
   | true=>exact P0 ⟨h,e ▸ a,e ▸ b,(rS w f h a b).symm⟩
   | false=>exact P7 (P0 ⟨h,e ▸ a,e ▸ b⟩)
 ·exact P7 (P7 (P7 ⟨h,by simp;omega⟩))
def kf(n:Int):Bool:=decide (33<=n)&&decide (n<=126) && !(n==36)
def iA(s:ByteArray):Bool:=decide (1<=s.size)&&decide (s.size<=8)&&(List.range s.size).all (fun i=>kf (ar s i))
def gi(n d:ByteArray):Int:=if iA n=XM then 2 else if 1024<d.size then 3 else 0
theorem oZ(h:w.size<1∨8<w.size):iA w=XM:=by
  unfold iA;rcases h with h | h
  · simp[show ¬1<=w.size by omega]
  · simp[show ¬w.size<=8 by omega]
theorem BJ(h:f<w.size)(a:kf (ar w f)=XM):iA w=XM:=by
  unfold iA;have:(List.range w.size).all (fun f=>kf (ar w f))=XM:=by
    rw[TF];exact⟨f,by simp[h],by simp[a]⟩
  simp[this]
theorem zj(a:1<=w.size)(b:w.size<=8)(h:∀i,i<w.size->kf (ar w i)=XL):iA w=XL:=by
  unfold iA;have:(List.range w.size).all (fun i=>kf (ar w i))=XL:=by
    rw[QR];intro i c;exact h i (by simpa using c)
  simp[this,a,b]
theorem nJ(r:w.size<=1073741824) :
    XO prog 75 #[Xy w] n fun e o=>e=XH (XC (iA w))/\o=n:=by
  by_cases j:1<=w.size
  · by_cases l:w.size<=8
    · go_enter func75,ntmps75
      go_wp2
      go_loopg [3] w.size (fun g i wr=>∃k:Nat,k<=w.size/\g=w.size-k/\i=Xx XF k/\XN (∀i,i<k->kf (ar w i)=XL)/\wr=n)
      case atStart=>exact⟨0,by omega,by omega,rfl,fun i h=>by omega,rfl⟩
      case round =>
        obtain⟨k,q,p,rfl,a,rfl⟩:=hrel;by_cases c:k<w.size
        · have f:∀b:Bool,kf (w[k].toNat:Int)=b->kf (ar w k)=b:=fun b h=>by rw[aY w k c];exact h
          have d:XN (∀b:Bool,kf (w[k].toNat:Int)=b->kf (ar w k)=b):=f;clear f;go_wp2
          all_goals first
            | (go_ret;refine⟨aH ?_,rfl⟩;rw[BJ w k c (d.out XM ?_)];first | (simp[kf];omega) | (simp[kf];simp at *;omega))
            | (go_roundg (w.size-(k+1))
               case measure=>omega
               case rel =>
                 refine⟨k+1,by omega,rfl,by go_num,?_,rfl⟩;intro i m;by_cases e:i=k
                 · subst e;exact d.out XL (by simp[kf];simp at *;omega)
                 · exact a.out i (by omega))
        · go_wp2
          go_ret;exact⟨aH (zj w j l (fun i m=>a.out i (by omega))).symm,rfl⟩
    · go_enter func75,ntmps75
      go_wp2
      all_goals go_ret
      all_goals exact⟨aH (oZ w (P7 (by omega))).symm,rfl⟩
  · go_enter func75,ntmps75
    go_wp2
    all_goals go_ret
    all_goals exact⟨aH (oZ w (P0 (by omega))).symm,rfl⟩
theorem mu(b:T.size<=1073741824)(g:w.size<=4294967296) :
    XO prog 47 #[Xy T,Xy w] n fun e f=>e=XH (Xx XF (gi T w))/\f=n:=by
  cases a:iA T
  · go_enter func47,ntmps47
    go_wp2_with fail;refine(nJ T _ b).mono ?_;rintro e d ⟨rfl,rfl⟩;go_wp2;go_ret;exact⟨ay (by simp[gi,a]),rfl⟩
  · by_cases c:1024<w.size
    · go_enter func47,ntmps47
      go_wp2_with fail;refine(nJ T _ b).mono ?_;rintro e d ⟨rfl,rfl⟩;go_wp2;go_ret;exact⟨ay (by simp[gi,a,c]),rfl⟩
    · go_enter func47,ntmps47
      go_wp2_with fail;refine(nJ T _ b).mono ?_;rintro e d ⟨rfl,rfl⟩;go_wp2;go_ret;exact⟨ay (by simp[gi,a,c]),rfl⟩
def bH(fs:Fs)(i:Nat):ByteArray:=(fs.getD i (⟨#[]⟩,⟨#[]⟩)).1
def PH(fs:Fs)(i:Nat):ByteArray:=(fs.getD i (⟨#[]⟩,⟨#[]⟩)).2
def pH(fs:Fs):List XQ :=
  [Xy (bH fs 0),Xy (PH fs 0),Xy (bH fs 1),Xy (PH fs 1),Xy (bH fs 2),Xy (PH fs 2),Xy (bH fs 3),Xy (PH fs 3),Xx XF fs.length]
def bV(w:XP)(v t:Nat)(fs:Fs)(more:List XQ):Prop:=w.heap[v]?=XK (XE (pH fs++more).toArray t)/\fs.length<=4
theorem bV.name{a:Fs}(h:bV l H x a I)(i:Nat)(b:i<4) :
    XI l ⟨H,i*2,XJ⟩=XK (Xy (bH a i))/\XI l ⟨H,i*2+1,XJ⟩=XK (Xy (PH a i)):=by
  constructor <;> rw[ab h.1]
  · match i,b with
    | 0,_=>rfl
    | 1,_=>rfl
    | 2,_=>rfl
    | 3,_=>rfl
  · match i,b with
    | 0,_=>rfl
    | 1,_=>rfl
    | 2,_=>rfl
    | 3,_=>rfl
theorem bV.count{a:Fs}(h:bV l H x a I) :
    XI l ⟨H,8,XJ⟩=XK (Xx XF a.length):=by
  rw[ab h.1];rfl
def bY(n:ByteArray):Fs->Nat->Int
  | [],_=>-1
  | f :: r,i=>if(f.1.toList==n.toList)=XL then i else bY n r (i+1)
def dY(fs:Fs)(n:ByteArray):Int:=bY n fs 0
theorem Du{α:Type}(l:List α)(k:Nat)(h:k<l.length):l.drop k=l[k] :: l.drop (k+1):=Qr h
theorem uR(a:Fs)(k:Nat)(h:k<a.length):bH a k=a[k].1:=by
  unfold bH;rw[PK,PJ h];rfl
theorem Iq(a:Fs)(n:ByteArray)(k:Nat)(h:k<a.length)(c:dY a n=bY n (a.drop k) k)(b:((bH a k).toList==n.toList)=XL):dY a n=k:=by
  rw[c,Du _ _ h,bY,<-uR a k h,PZ b]
theorem EO(a:Fs)(n:ByteArray)(k:Nat)(h:k<a.length)(c:dY a n=bY n (a.drop k) k)(b:((bH a k).toList==n.toList)=XM):dY a n=bY n (a.drop (k+1)) (k+1):=by
  rw[c,Du _ _ h,bY,<-uR a k h,PV (by simp[b])]
theorem EP(a:Fs)(n:ByteArray)(k:Nat)(h:¬k<a.length)(b:dY a n=bY n (a.drop k) k):dY a n=-1:=by
  rw[b,Q4 (by omega),bY]
theorem jV(b:Fs)(j:List XQ)(n:ByteArray)(w:XP)(h:bV w y f b j) :
    XO prog 48 #[XA (XK ⟨y,0,XJ⟩),Xy n] w fun e p=>e=XH (Xx XF (dY b n))/\p=w:=by
  have m:=h.count;have o:=h.2;go_enter func48,ntmps48;go_wp2
  go_loopg [5] b.length (fun g i wr=>∃k:Nat,k<=b.length/\g=b.length-k/\i=Xx XF k/\XN (dY b n=bY n (b.drop k) k)/\wr=w)
  case atStart=>exact⟨0,by omega,by omega,rfl,rfl,rfl⟩
  case round =>
    obtain⟨k,r,q,rfl,a,rfl⟩:=hrel;by_cases c:k<b.length
    · obtain⟨s,t⟩:=h.name k (by omega)
      cases l:((bH b k).toList==n.toList)
      · have d:XN (dY b n=bY n (b.drop (k+1)) (k+1)):=EO b n k c a.out l
        clear a;go_wp2;go_roundg (b.length-(k+1))
        case measure=>omega
        case rel=>exact⟨k+1,by omega,rfl,by go_num,d,rfl⟩
      · have d:XN (dY b n=k):=Iq b n k c a.out l
        clear a;go_wp2;go_ret;exact⟨ay d.out.symm,rfl⟩
    · have d:XN (dY b n=-1):=EP b n k c a.out
      clear a;go_wp2;go_ret;exact⟨ay d.out.symm,rfl⟩
theorem bV.free{a:Fs}(h:bV l H x a I)(i:Nat):l.frozen? ⟨H,i,XJ⟩=XM:=aw h.1 i
theorem bV.kept{a:Fs}{S:List Nat}(h:bV l H x a I)(b:aa S l v)(c:H∉S):bV v H x a I :=
 ⟨b.get h.1 c,h.2⟩
theorem bV.lt{a:Fs}(h:bV l H x a I):H<l.heap.size:=ae h.1
theorem Il(a:Fs)(b:List XQ)(w:XP)(h:bV w d y a b)(k:f<a.length) :
  XO prog 133 #[XA (XK ⟨d,0,XJ⟩),Xx XF f] w fun e j=>e=XH (XB #[Xy (bH a f),Xy (PH a f)])/\aa [] w j:=by
 have c:=h.count;have g:=h.2;have i:=h.lt;obtain⟨l,m⟩:=h.name f (by omega);go_enter func133,ntmps133;go_wp2;exact Qg (v:=XB #[Xy (bH a f),Xy (PH a f)]) (by simp[results,results133,go_sem]) rfl ⟨rfl,(aa.refl _ _).alloc _⟩
theorem Mm(f:Fs)(e:List XQ)(n d:ByteArray)(h:f.length<4) :
  (((pH f++e).set (f.length*2) (Xy n)).set (f.length*2+1) (Xy d)).set 8 (Xx XF ((f.length:Int)+1))=pH (f++[(n,d)])++e:=by
 match f,h with
 | [],_=>rfl
 | [a],_=>rfl
 | [a,b],_=>rfl
 | [a,b,c],_=>rfl
theorem Mn(g:Fs)(f:List XQ)(n d:ByteArray)(k:Nat)(i:k<g.length)(h:g.length<=4) :
  ((pH g++f).set (k*2) (Xy n)).set (k*2+1) (Xy d)=pH (g.set k (n,d))++f:=by
 match g,h,k,i with
 | [a],_,0,_=>rfl
 | [a,b],_,0,_=>rfl
 | [a,b],_,1,_=>rfl
 | [a,b,c],_,0,_=>rfl
 | [a,b,c],_,1,_=>rfl
 | [a,b,c],_,2,_=>rfl
 | [a,b,c,e],_,0,_=>rfl
 | [a,b,c,e],_,1,_=>rfl
 | [a,b,c,e],_,2,_=>rfl
 | [a,b,c,e],_,3,_=>rfl
theorem bV.added{a:Fs}(h:bV l H x a I)(n d:ByteArray)(c:a.length<4) :
  bV (((l.setCell ⟨H,a.length*2,XJ⟩ (Xy n)).setCell ⟨H,a.length*2+1,XJ⟩ (Xy d)).setCell ⟨H,8,XJ⟩ (Xx XF ((a.length:Int)+1))) H x (a++[(n,d)]) I:=by
 have b:=af (af (af h.1 (a.length*2) (Xy n)) (a.length*2+1) (Xy d)) 8 (Xx XF ((a.length:Int)+1));refine⟨?_,by simp;omega⟩;rw[b];simp only[List.setIfInBounds_toArray,Mm a I n d c]
theorem bV.turned{a:Fs}(h:bV l H x a I)(n d:ByteArray)(k:Nat)(c:k<a.length) :
  bV ((l.setCell ⟨H,k*2,XJ⟩ (Xy n)).setCell ⟨H,k*2+1,XJ⟩ (Xy d)) H x (a.set k (n,d)) I:=by
 have b:=af (af h.1 (k*2) (Xy n)) (k*2+1) (Xy d);refine⟨?_,by simpa using h.2⟩;rw[b];simp only[List.setIfInBounds_toArray,Mn a I n d k c h.2]
theorem KH(b:Fs)(a:List XQ)(c:XP)(h:bV c d y b a)(j:b.length<4) :
  XO prog 49 #[XA (XK ⟨d,0,XJ⟩),XB #[Xy T,Xy w]] c fun e g=>e=XH (XD #[])/\bV g d y (b++[(T,w)]) a/\aa [d] c g:=by
 have f:=h.count;have i:=h.free;have k:=h.lt;obtain⟨l,m⟩:=h.name b.length (by omega);go_enter func49,ntmps49;go_wp2;go_region
 all_goals go_wp2
 all_goals go_end0
 exact⟨rfl,(h.added T w j).kept ((aa.refl [] _).alloc _ |>.drew) (by simp),((((aa.refl _ _).setCell (P0 (by simp)) _).setCell (P0 (by simp)) _).setCell (P0 (by simp)) _).alloc _ |>.drew⟩
def iV(fs:Fs)(n d:ByteArray):Int×Fs :=
 if gi n d≠0 then(gi n d,fs)
 else if 0<=dY fs n then(0,fs.set (dY fs n).toNat (n,d))
 else if 4<=fs.length then(1,fs) else(0,fs++[(n,d)])
theorem yU(a:Fs)(i:Nat):bY w a i=-1∨((i:Int)<=bY w a i/\bY w a i<i+a.length):=by
 induction a generalizing i with
 | nil=>exact P0 rfl
 | cons f r b =>
  rw[bY];split
  ·exact P7 ⟨by omega,by simp;omega⟩
  ·rcases b (i+1) with h | h
   ·exact P0 h
   ·exact P7 ⟨by omega,by simp;omega⟩
theorem yT(a:Fs):dY a w=-1∨∃k:Nat,k<a.length/\dY a w=k:=by
 rcases yU w a 0 with h | h
 ·exact P0 h
 ·refine P7 ⟨(dY a w).toNat,?_,?_⟩ <;> (unfold dY;omega)
theorem LS(a:Fs)(b:List XQ)(p:XP)(h:bV p d y a b)(n:T.size<=1073741824)(m:w.size<=4294967296) :
  XO prog 15 #[XA (XK ⟨d,0,XJ⟩),Xy T,Xy w] p fun e t=>e=XH (Xx XF (iV a T w).1)/\bV t d y (iV a T w).2 b/\aa [d] p t:=by
 have q:=h.count;have A:=h.lt;have s:=h.2;by_cases c:gi T w=0
 ·rcases yT T a with i | ⟨k,z,i⟩
  ·by_cases r:4<=a.length
   ·have g:XN (iV a T w=(1,a)):=(by show iV a T w=_;simp[iV,c,i,r]);have l:XN (gi T w=0):=c;have f:XN (dY a T=-1):=i;clear c i;go_enter func15,ntmps15;go_wp2_with fail;refine(mu T w _ n m).mono ?_;rintro e j ⟨rfl,rfl⟩;rw[l.out];go_wp2_with fail;refine(jV d y a b T _ (by exact h.kept ((aa.refl [] _).alloc _) (by simp))).mono ?_;rintro e j ⟨rfl,rfl⟩;rw[f.out];go_wp2;go_ret;exact⟨ay (by rw[g.out]),by rw[g.out];exact h.kept ((aa.refl [] _).alloc _) (by simp),(aa.refl _ _).alloc _⟩
   ·have g:XN (iV a T w=(0,a++[(T,w)])):=(by show iV a T w=_;simp[iV,c,i,r]);have l:XN (gi T w=0):=c;have f:XN (dY a T=-1):=i;clear c i;go_enter func15,ntmps15;go_wp2_with fail;refine(mu T w _ n m).mono ?_;rintro e j ⟨rfl,rfl⟩;rw[l.out];go_wp2_with fail;refine(jV d y a b T _ (by exact h.kept ((aa.refl [] _).alloc _) (by simp))).mono ?_;rintro e j ⟨rfl,rfl⟩;rw[f.out];go_wp2_with fail;refine(KH d y T w a b _ (by exact h.kept ((aa.refl [] _).alloc _) (by simp)) (by omega)).mono ?_;rintro e D ⟨rfl,u,o⟩;go_wp2;go_ret;exact⟨ay (by rw[g.out]),by rw[g.out];exact u,((aa.refl _ _).alloc _).trans o⟩
  ·have g:XN (iV a T w=(0,a.set k (T,w))):=(by show iV a T w=_;simp[iV,c,i]);have l:XN (gi T w=0):=c;have f:XN (dY a T=k):=i;obtain⟨B,C⟩:=h.name k (by omega);have x:=h.free;clear c i;go_enter func15,ntmps15;go_wp2_with fail;refine(mu T w _ n m).mono ?_;rintro e j ⟨rfl,rfl⟩;rw[l.out];go_wp2_with fail;refine(jV d y a b T _ (by exact h.kept ((aa.refl [] _).alloc _) (by simp))).mono ?_;rintro e j ⟨rfl,rfl⟩;rw[f.out];go_wp2_with fail;go_region
   all_goals go_wp2
   all_goals go_ret
   exact⟨ay (by rw[g.out]),by rw[g.out];exact(h.turned T w k z).kept ((aa.refl [] _).alloc _ |>.drew) (by simp),(((aa.refl _ _).setCell (P0 (by simp)) _).setCell (P0 (by simp)) _).alloc _ |>.drew⟩
 ·have g:XN (iV a T w=(gi T w,a)):=by show iV a T w=_;simp[iV,c]
  have v:(gi T w != 0)=XL:=by simp[c]
  clear c;go_enter func15,ntmps15;go_wp2_with fail;refine(mu T w _ n m).mono ?_;rintro e j ⟨rfl,rfl⟩;go_wp2;go_ret;exact⟨ay (by rw[g.out]),by rw[g.out];exact h,aa.refl _ _⟩
structure Hd where
 ao:Option Addr
 cap:Nat
def Hd.blk(h:Hd):Option Nat:=h.ao.map (·.block)
structure fe where
 e:TypeId
 size:Nat
 n:Nat
 xs:List XQ
def aE(w:XP)(h:Hd)(r:fe):Prop:=w.ownsRow 0 r.e r.size (Xz h.ao r.n h.cap) r.n r.xs
theorem xg(h:Hd)(n:Nat):(Xz h.ao n h.cap).ownBlock=h.blk:=by
 unfold Hd.blk;cases h.ao <;> rfl
theorem aE.lt{h:Hd}{r:fe}(o:aE l h r){k:Nat}(a:h.blk=XK k):k<l.heap.size :=
 (World.ownsRow.lt (h:=o) k (by rw[xg];exact a)).2
theorem aE.Uw{w':XP}{h:Hd}{r:fe}(o:aE l h r)(p:∀k,h.blk=XK k->w'.heap[k]?=l.heap[k]?):aE w' h r:=by
 refine⟨o.1,?_⟩;rcases o.2 with n | ⟨g,b,c,a,j,m,d,e,f,i⟩
 ·exact P0 n
 ·refine P7 ⟨g,b,c,a,j,?_,d,e,f,i⟩;rw[p g (by unfold Hd.blk;injection a with a;rw[a];rfl)];exact m
theorem aE.UC{h:Hd}{r:fe}(o:aE l h r) :
  (h=⟨XJ,0⟩/\r.n=0/\r.xs=[])∨∃g a,h.ao=XK ⟨g,0,XJ⟩/\l.heap[g]?=XK (XE a r.e)/\r.n<=h.cap/\h.cap<=maxLen/\a.size=h.cap*r.size/\a.toList.take (r.n*r.size)=r.xs:=by
 rcases o.2 with ⟨b,f⟩ | ⟨g,j,a,b,t,s,k,m,p,q⟩
 ·left
  injection b with c i d
  refine⟨by cases h;simp_all,f,Ql (by rw[o.1,f];simp)⟩
 ·right
  injection b with c i d
  subst d;exact⟨g,a,c,s,k,m,p,q⟩
theorem ba:(⟨y,0,XJ⟩:Addr).add f=⟨y,f,XJ⟩:=by
 simp only[Addr.add];split
 ·next h=>subst h;rfl
 ·simp
theorem aE.cell{h:Hd}{r:fe}(o:aE l h r)(a:h.ao=XK ⟨H,0,XJ⟩)(j:Nat)(u:XQ)(b:r.xs[j]?=XK u):XI l ⟨H,j,XJ⟩=XK u:=by
 have:=o.cells (g:=H) (by rw[xg];unfold Hd.blk;rw[a];rfl) j u b;rw[ba]at this;exact this
theorem aD{y:List Oper}(R:N.guard=XJ)(s x:Operand)(t:TypeId)(C:N.op=Op.call { callee:=Callee.builtin Builtin.append,args:=#[s,x],argTypes:=#[t,t] })(i:TypeInfo)(z:XQ)(f:Nat)(h:Hd)(r:fe)(J:M.underlying t=XK (.slice r.e))(K:M.info? r.e=XK i)(h3:i.zero=XK z)(L:i.size=r.size)(h5:i.bytes=f)(h6:z.cells.size=r.size)(h7:0<r.size)(T:g.eval s=Xz h.ao r.n h.cap)(o:aE n h r)(E:Addr)(m c:Nat)(d:List XQ)(U:g.eval x=Xz (XK E) m c)(S:d.length=m*r.size)(Q:∀j u,d[j]?=XK u->n.cell? (E.add j)=XK u)(B:∀u∈d,u.oneCell'=XL)(hm:0<m)(b1:r.n+m<=maxLen)(H:(r.n+m)*f<=140737488355328)(O:∀p a w,aE w ⟨XK ⟨p,0,XJ⟩,a⟩ ⟨r.e,r.size,r.n+m,r.xs++d⟩->n.grownBy w h.blk->(h.blk=XK p∨n.heap.size<=p)->wpList M z2 z4 y (g.put N.dst (Xz (XK ⟨p,0,XJ⟩) (r.n+m) a)) w) :
  wpList M z2 z4 (N :: y) g n:=by
 rcases o.UC with ⟨v,A,I⟩ | ⟨p,F,v,A,I,e4,e5,e6⟩
 ·refine wpList_append_grows n R s x t C r.e i z r.size f J K h3 L h5 h6 h7 XJ 0 0 [] (by rw[T,v,A]) (fun _=>⟨rfl,rfl⟩) (by simp) (by intro b P;cases P) E m c d U S Q B (by omega) (by omega) (by rw[A]at H;exact H) ?_;intro v' w D l;rcases D.2 with ⟨_,q⟩ | ⟨p,a,F,V,W,X,Y,Z,q6,q7⟩
  ·omega
  ·have:=O p a w ⟨by have:=D.1;simpa [I,A] using this,P7 ⟨p,a,F,by simp,Qx _,X,by simpa [A] using Y,Z,q6,by simpa [A,I] using q7⟩⟩ (by rw[v];exact l) (P7 W);rw[V];simpa [A] using this
 ·by_cases hf:r.n+m<=h.cap
  ·refine wpList_append_fits n R s x t C 0 r.e i r.size J K L p r.n h.cap r.xs (by rw[T,v]) (by have:=o;unfold aE at this;rw[v]at this;exact this) E m c d U S Q B hf ?_;intro w D l;exact O p h.cap w D (by unfold Hd.blk;rw[v];exact l) (P0 (by unfold Hd.blk;rw[v];rfl))
  ·refine wpList_append_grows n R s x t C r.e i z r.size f J K h3 L h5 h6 h7 (XK ⟨p,0,XJ⟩) r.n h.cap r.xs (by rw[T,v]) (by intro hh;cases hh) o.1 (by intro b P j u hj;cases P;rw[ba];exact o.cell v j u hj) E m c d U S Q B (by omega) b1 H ?_;intro v' w D l;rcases D.2 with ⟨_,q⟩ | ⟨g',a,G,V,W,X,Y,Z,q6,q7⟩
   ·omega
   ·have:=O g' a w ⟨D.1,P7 ⟨g',a,G,rfl,Qx _,X,Y,Z,q6,q7⟩⟩ ⟨l.os,l.tape,l.output,l.size,fun k hk _=>l.block k hk (by simp)⟩ (P7 W);rw[V];exact this
theorem uy{P:Program}(p F G c:TypeId)(g f a:Nat)(h:Hd)(r:fe)(b:Array XQ)(t:TypeId)(E:P.underlying p=XK (.slice c))(q:(P.info? c).map (·.size)=XK a)(C:r.size=a)(y:n.heap[g]?=XK (XE b t))(l:aE n h r)(D:b.size=r.n*a)(x:∀v∈r.xs,v.oneCell'=XL) :
  (Builtin.copy_ #[p,F] G #[Xz (XK ⟨g,0,XJ⟩) r.n f,Xz h.ao r.n h.cap]).run P n=.ok (goInt r.n) (n.setRow g r.xs.toArray):=by
 have B:r.xs.length=r.n*a:=by have:=l.1;rw[C]at this;exact this
 have d:=run_storeCells_at P g 0 t r.xs 0 b n y (by simp;omega) x;have s:(b.toList.take (0+0)++r.xs++b.toList.drop (0+0+r.xs.length))=r.xs:=by
  simp;omega
 rw[s]at d;have k:(Builtin.firstCells a r.n (Xz h.ao r.n h.cap)).run P n=.ok r.xs.toArray n:=by
  rcases l.UC with ⟨e,H,u⟩ | ⟨w,o,e,_⟩
  ·rw[e,u];exact run_firstCells_none n _ _ _ _
  ·rw[e];exact run_firstCells_some n a r.n ⟨w,0,XJ⟩ r.n h.cap r.xs B (fun j v A=>by rw[ba];exact l.cell e j v A)
 cases m:P.info? c with
 | none=>simp[m]at q
 | some i =>
  have z:i.size=a:=by simpa [m] using q
  simp[Builtin.copy_,run_underlying E,Builtin.lenOf,sizeOf,typeInfo,m,z,k,d]
theorem zm(h:aa D l v)(a:H∈D∨l.heap.size<=H)(c:Array XQ):aa D l (v.setRow H c) :=
 ⟨h.os,h.tape,h.output,by have:=h.size;simp[World.setRow];omega,fun k d b=>by
  rw[setRow_other v H k c (by rintro rfl;exact a.elim b (fun a=>by omega))];exact h.block k d b⟩
theorem jT{P:Program}(d j k:TypeId)(g b:Nat)(h:Hd)(r:fe)(a:Array XQ)(t:TypeId)(p:P.underlying d=XK (.slice r.e))(o:(P.info? r.e).map (·.size)=XK r.size)(i:n.heap[g]?=XK (XE a t))(m:aE n h r)(f:a.size=r.n*r.size)(l:∀v∈r.xs,v.oneCell'=XL) :
  ∃c,(Builtin.copy_ #[d,j] k #[Xz (XK ⟨g,0,XJ⟩) r.n b,Xz h.ao r.n h.cap]).run P n=.ok (goInt r.n) c/\c.heap[g]?=XK (XE r.xs.toArray t)/\aa [g] n c/\c.heap.size=n.heap.size :=
 ⟨_,uy (P:=P) n d j k r.e g b r.size h r a t p o rfl i m f l,setRow_heap n g _ _ t _ i,zm (aa.refl _ _) (P0 (by simp)) _,by simp[World.setRow]⟩
theorem aE.made{r:fe}(b:l.heap[H]?=XK (XE r.xs.toArray r.e))(a:r.xs.length=r.n*r.size)(c:r.n<=maxLen):aE l ⟨XK ⟨H,0,XJ⟩,r.n⟩ r :=
 ⟨a,P7 ⟨H,r.n,r.xs.toArray,rfl,Qx _,b,PQ _,c,by simpa using a,by simp[<-a]⟩⟩
theorem mh{P:Program}(t C:TypeId)(i:TypeInfo)(z:XQ)(d:Nat)(h:Hd)(r:fe)(F:P.underlying t=XK (.slice r.e))(G:P.info? r.e=XK i)(T:i.zero=XK z)(H:i.size=r.size)(U:i.bytes=d)(V:z.cells.size=r.size)(W:0<r.size)(o:aE n h r)(x:Addr)(m c:Nat)(b:List XQ)(J:b.length=m*r.size)(I:∀j u,b[j]?=XK u->n.cell? (x.add j)=XK u)(B:∀u∈b,u.oneCell'=XL)(hm:0<m)(X:r.n+m<=maxLen)(D:(r.n+m)*d<=140737488355328) :
  ∃g a s,(Builtin.append_ #[t,t] C #[Xz h.ao r.n h.cap,Xz (XK x) m c]).run P n=.ok (Xz (XK ⟨g,0,XJ⟩) (r.n+m) a) s /\
   aE s ⟨XK ⟨g,0,XJ⟩,a⟩ ⟨r.e,r.size,r.n+m,r.xs++b⟩/\n.grownBy s h.blk/\(h.blk=XK g∨n.heap.size<=g):=by
 rcases o.UC with ⟨p,w,E⟩ | ⟨g,y,p,w,E,e4,e5,e6⟩
 ·obtain⟨v',s,l,v,f,_⟩:=run_append_own (P:=P) n n.heap.size t C r.e i z r.size d F G T H U V W (Xz XJ 0 0) 0 [] (Qj n _ r.e r.size) x m c b J I B (by omega) (by rw[w]at D;exact D) (PQ _);rcases v.2 with ⟨_,q⟩ | ⟨g,a,y,K,L,M,N,O,Q,R⟩
  ·omega
  ·refine⟨g,a,s,?_,⟨by have:=v.1;simpa [E,w] using this,P7 ⟨g,a,y,by simp,Qx _,M,by simpa [w] using N,O,Q,by simpa [w,E] using R⟩⟩,?_,P7 L⟩
   ·rw[p,w,l,K]
   ·rw[p];exact f
 ·by_cases Y:r.n+m<=h.cap
  ·obtain⟨s,l,v,f⟩:=run_append_fits (P:=P) n 0 t C r.e i r.size F G H g r.n h.cap r.xs (by have:=o;unfold aE at this;rw[p]at this;exact this) x m c b J I B Y;exact⟨g,h.cap,s,by rw[p,l],v,by unfold Hd.blk;rw[p];exact f,P0 (by unfold Hd.blk;rw[p];rfl)⟩
  ·obtain⟨v',s,l,v,f⟩:=run_append_arg_grows (P:=P) n t C r.e i z r.size d F G T H U V W ⟨g,0,XJ⟩ r.n h.cap r.xs o.1 (by intro j u Z;rw[ba];exact o.cell p j u Z) x m c b J I (by omega) X D;rcases v.2 with ⟨_,q⟩ | ⟨S,a,A,K,L,M,N,O,Q,R⟩
   ·omega
   ·exact⟨S,a,s,by rw[p,l,K],⟨v.1,P7 ⟨S,a,A,rfl,Qx _,M,N,O,Q,R⟩⟩,⟨f.os,f.tape,f.output,f.size,fun k hk _=>f.block k hk (by simp)⟩,P7 L⟩
theorem aP{K:Act->XP->Prop}{E:Prop}(O:N.guard=XJ)(s x:Operand)(t:TypeId)(w:N.op=Op.call { callee:=Callee.builtin Builtin.append,args:=#[s,x],argTypes:=#[t,t] })(i:TypeInfo)(z:XQ)(b:Nat)(h:Hd)(r:fe)(B:M.underlying t=XK (.slice r.e))(C:M.info? r.e=XK i)(D:i.zero=XK z)(F:i.size=r.size)(G:i.bytes=b)(H:z.cells.size=r.size)(I:0<r.size)(R:g.eval s=Xz h.ao r.n h.cap)(k:aE l h r)(q:Addr)(m c:Nat)(a:List XQ)(T:g.eval x=Xz (XK q) m c)(Q:a.length=m*r.size)(L:∀j u,a[j]?=XK u->l.cell? (q.add j)=XK u)(v:∀u∈a,u.oneCell'=XL)(P:0<m)(y:r.n+m<=maxLen)(A:(r.n+m)*b<=140737488355328)(J:∀f d p,aE p ⟨XK ⟨f,0,XJ⟩,d⟩ ⟨r.e,r.size,r.n+m,r.xs++a⟩->l.grownBy p h.blk->(h.blk=XK f∨l.heap.size<=f)->K (g.put N.dst (Xz (XK ⟨f,0,XJ⟩) (r.n+m) d)) p) :
  if Region.wanted N (yielded z2 g.tmps)=XL then Oper.wp M N g l K z4 else E:=by
 have S:Region.wanted N (yielded z2 g.tmps)=XL:=by simp[Region.wanted,O]
 rw[PZ S];obtain⟨f,d,p,o,U,V,W⟩:=mh (P:=M) l t N.type i z b h r B C D F G H I k q m c a Q L v P y A;unfold Oper.wp;simp[execOp,w,resolve,invoke,builtin,R,T,o,Result.andThen];exact J f d p U V W
theorem bR{P:Program}(t e:TypeId)(i:TypeInfo)(z:XQ)(g:P.underlying t=XK (.slice e))(f:P.info? e=XK i)(j:i.zero=XK z)(a b:Nat)(c:i.size=b)(d:i.bytes*a<=281474976710656)(k:a<=1073741824) :
  (Instr.makeSlice t (Xx XF a) (Xx XF a)).run P n=.ok (Xz (XK ⟨n.heap.size,0,XJ⟩) a a) (n.alloc (XE (madeCells z.cells (a*b)) e)):=by
 have:=run_make (P:=P) n t e i z g f j XF XF a a (by omega) (Int.le_refl _) (by have:=Int.ofNat_le.2 d;rw[Int.natCast_mul]at this;exact this) (by omega);simpa [c] using this
def jg(w:XP)(x:Nat)(fs:Fs)(rep:Bool)(a b c:XQ):Prop:=bV w x 53 fs [XC rep,a,b,c]
def LD:XQ:=Xz XJ 0 0
def fy(w:XP)(x:Nat)(fs:Fs):Prop:=jg w x fs XM LD LD LD
def br(w:XP)(x:Nat)(fs:Fs):Prop:=∃rep a b c,jg w x fs rep a b c
theorem fy.anyR{a:Fs}(h:fy l H a):br l H a:=⟨_,_,_,_,h⟩
theorem jg.anyR{a:Fs}(h:jg l H a t s c z0):br l H a:=⟨_,_,_,_,h⟩
theorem fy.kept{a:Fs}{S:List Nat}(h:fy l H a)(k:aa S l v)(b:H∉S):fy v H a:=bV.kept h k b
theorem br.kept{d:Fs}{S:List Nat}(h:br l H d)(k:aa S l v)(e:H∉S):br v H d:=by
 obtain⟨r,a,b,c,h⟩:=h;exact⟨r,a,b,c,bV.kept h k e⟩
theorem br.lt{d:Fs}(h:br l H d):H<l.heap.size:=by
 obtain⟨r,a,b,c,h⟩:=h;exact bV.lt h
theorem jg.cells{a:Fs}(h:jg l H a t s c z0) :
  XI l ⟨H,9,XJ⟩=XK (XC t)/\XI l ⟨H,10,XJ⟩=XK s/\XI l ⟨H,11,XJ⟩=XK c/\XI l ⟨H,12,XJ⟩=XK z0:=by
 refine⟨?_,?_,?_,?_⟩ <;> (rw[ab h.1];rfl)
def Az(w:XP)(x:Nat)(rep:Bool)(a b c:XQ):XP:=(((w.setCell ⟨x,9,XJ⟩ (XC rep)).setCell ⟨x,10,XJ⟩ a).setCell ⟨x,11,XJ⟩ b).setCell ⟨x,12,XJ⟩ c
theorem jg.turn{f:Fs}(h:jg l H f t s c z0)(a:Bool)(b d e:XQ):jg (Az l H a b d e) H f a b d e:=by
 refine⟨?_,h.2⟩;unfold Az;rw[af (af (af (af h.1 9 (XC a)) 10 b) 11 d) 12 e];rfl
theorem CZ(h:aa D l v)(d:H∈D∨l.heap.size<=H)(e:Bool)(a b c:XQ):aa D l (Az v H e a b c) :=
 (((h.setCell d _).setCell d _).setCell d _).setCell d _
theorem DR:XO prog 7 #[] n fun e a=>e=XH (XA (XK ⟨n.heap.size,0,XJ⟩))/\fy a n.heap.size []/\aa [] n a:=by
 go_enter func7,ntmps7;go_wp2;go_ret;exact⟨rfl,⟨PM _ _,by simp⟩,(aa.refl _ _).alloc _⟩
theorem yK(g:Fs)(w:XP)(h:br w f g) :
  XO prog 16 #[XA (XK ⟨f,0,XJ⟩)] w fun e i=>e=XH (XD #[])/\fy i f g/\aa [f] w i:=by
 obtain⟨n,a,b,c,h⟩:=h;obtain⟨o,j,k,l⟩:=h.cells;have p:=bV.free h;have d:XN _:=h.turn XM (Xz XJ 0 0) (Xz XJ 0 0) (Xz XJ 0 0);unfold Az at d;have m:=bV.lt h;go_enter func16,ntmps16;go_wp2;go_end0;exact⟨rfl,d.out,CZ (aa.refl _ _) (P0 (by simp)) _ _ _ _⟩
theorem pL(f:Fs)(j:XP)(h:br j y f)(u:T.size<=1073741824)(s:w.size<=4294967296) :
  XO prog 8 #[XA (XK ⟨y,0,XJ⟩),Xy T,Xy w] j fun e n=>e=XH (Xx XF (iV f T w).1)/\br n y (iV f T w).2/\((iV f T w).1=0->fy n y (iV f T w).2)/\aa [y] j n:=by
 obtain⟨i,a,b,c,h⟩:=h;have o:=LS y 53 T w f [XC i,a,b,c] j h u s;have d:XN _:=o;clear o;generalize iV f T w=v at *;obtain⟨r,k⟩:=v;simp only at d ⊢;cases t:(r==0)
 ·go_enter func8,ntmps8;go_wp2_with fail;refine PU d.out ?_;rintro e q ⟨rfl,l,g⟩;go_wp2;go_ret;exact⟨rfl,⟨i,a,b,c,l⟩,fun e=>by subst e;simp at t,g⟩
 ·go_enter func8,ntmps8;go_wp2_with fail;refine PU d.out ?_;rintro e q ⟨rfl,l,g⟩;go_wp2_with fail;refine(yK y k q ⟨i,a,b,c,l⟩).mono ?_;rintro e x ⟨rfl,p,m⟩;go_wp2;go_ret;exact⟨rfl,p.anyR,fun _=>p,g.trans m⟩
end Go.Proofs.YtnbalopedcgpcaaGreat
