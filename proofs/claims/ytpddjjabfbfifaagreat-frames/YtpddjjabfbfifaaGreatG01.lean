import Derived.Test.YtpddjjabfbfifaaGreatChecked
import Derived.WalkKit
import Derived.WalkSpells
import Derived.WalkLawsBesides
import Derived.Deep.QuietTactic
import Derived.BigQuiet
import Derived.Deep.LoopGhost
import Derived.Laws.CopyRow
import Derived.Laws.MakeOwn
import Derived.Deep.RegionLaw
import Derived.Deep.RegionHeld3
import Derived.Deep.CutRange
namespace Go.Proofs.YtpddjjabfbfifaaGreat
open Go.RowKit Tryz
set_option maxRecDepth 100000
set_option maxHeartbeats 40000000
variable{ya:Prop}{y:List Nat}{b x:World}{l S yd yg:Nat}{z6:Array Value}{yr:Obj}{g:Program}{zb y5 y6:Value}{zt:Bool}{y8:Int}{I a:ByteArray}{D:List Value}{y9:Array Oper}{z4:Oper}{z5:Act}{ys:Exit->Act->World->Prop}{y2:Nat->Int}{y7 y3:Nat×Nat}{y4:Option Addr}(v:World)(z7 L M:TypeId)(d:ByteArray)(o:Nat)(f:ByteArray)(y1:Option Addr)(T:Nat)(N:TypeInfo)(y0:Value)(i:Int)(w:Nat)(n H:ByteArray)(k:World)
abbrev QO:=@List.getElem?_eq_getElem
abbrev QP:=@List.getD_eq_getElem?_getD
abbrev QQ:=@Nat.le_refl
abbrev QR:=@Go.heap_alloc_new
abbrev QS:=@if_neg
abbrev QT:=@Go.Calls.mono
abbrev QU:=@Or.inr
abbrev QV:=@if_pos
abbrev QW:=@Nat.lt_of_lt_of_le
abbrev QX:=@Go.bodyPost_ret
abbrev QY:=@Go.World.ownsRow_nil
abbrev QZ:=@List.length_append
abbrev Q0:=@Or.inl
abbrev Q1:=@Nat.le_trans
abbrev Q3:=@Go.RowKit.Below.heap_setCell
abbrev Q4:=@List.getElem?_append_right
abbrev Q5:=@Go.World.cell?_of_block
abbrev Q6:=@List.getElem?_append_left
abbrev Q7:=@List.getElem?_eq_some_iff
abbrev Q8:=@List.mem_singleton
abbrev Q9:=@List.mem_range
abbrev Ra:=@List.getElem_mem
abbrev Rb:=@Nat.one_pos
abbrev Rc:=@Go.Calls.quiet_of_same
abbrev Rd:=@Go.info_parts
abbrev Re:=@List.drop_eq_getElem_cons
abbrev Rf:=@Bool.and_eq_true
abbrev Rg:=@beq_eq_false_iff_ne
abbrev Rh:=@List.length_map
abbrev Ri:=@List.mem_cons
abbrev Rj:=@List.eq_nil_of_length_eq_zero
abbrev Rk:=@List.append_nil
abbrev Rl:=@List.mem_cons_of_mem
abbrev Rm:=@List.mem_cons_self
abbrev Rn:=@Nat.zero_le
abbrev Ro:=@List.length_cons
abbrev Rp:=@List.getElem?_map
abbrev Rq:=@List.mem_append
abbrev Rr:=@List.length_nil
abbrev Rs:=@Bool.false_eq_true
abbrev Rt:=@List.setIfInBounds_toArray
abbrev Ru:=@List.length_set
abbrev Rv:=@List.getElem?_eq_none
abbrev Rx:=@List.map_append
abbrev Ry:=@List.mem_of_find?_eq_some
abbrev Rz:=@Bool.or_eq_true
abbrev RB:=@List.any_eq_true
abbrev RC:=@List.take_succ_eq_append_getElem
abbrev RG:=@List.mem_filter
abbrev RH:=@List.flatMap_cons
abbrev RI:=@List.take_length
abbrev RK:=@Nat.le_of_lt
abbrev RM:=@List.mem_append_left
abbrev RN:=@List.not_mem_nil
abbrev RO:=@List.length_take
abbrev RQ:=@List.length_drop
abbrev RT:=@List.getElem?_set
abbrev RU:=@List.filter_append
abbrev RV:=@Nat.sub_self
abbrev RY:=@Go.ByteArray.toList_eq
abbrev RZ:=@List.getElem_of_mem
abbrev R0:=@Bool.or_eq_false_iff
abbrev R2:=@List.mem_of_getElem?
abbrev R4:=@List.range_succ
abbrev R6:=@List.drop_of_length_le
abbrev R8:=@Go.IntKind.wrap_i64
abbrev R9:=@Int.toNat_natCast
abbrev Sa:=@decide_eq_false
abbrev Sb:=@List.length_filter_le
abbrev Sc:=@ByteArray.size_append
abbrev Sd:=@List.mem_append_right
abbrev Se:=@List.getElem?_replicate
abbrev Sf:=@List.drop_append_of_le_length
abbrev Sg:=@List.flatMap_append
abbrev Sh:=@List.mem_map
abbrev Si:=@List.find?_range_eq_some
abbrev Sj:=@List.find?_eq_none
abbrev Sk:=@List.all_eq_true
abbrev Sn:=@List.take_append_of_le_length
abbrev So:=@Bool.false_or
abbrev Sp:=@List.ext_getElem?
abbrev Sq:=@if_false
abbrev Sr:=@List.filter_cons_of_neg
abbrev Ss:=@Go.size_madeCells
abbrev Su:=@Bool.true_and
abbrev Sv:=@List.foldl_append
abbrev Sw:=@decide_eq_true_eq
abbrev Sx:=@List.append_assoc
abbrev Sy:=@Bool.or_false
abbrev Sz:=@Bool.eq_iff_iff
abbrev SA:=@List.set_cons_succ
abbrev SB:=@Nat.add_sub_cancel
abbrev SD:=@List.getElem?_cons_succ
abbrev SE:=@List.length_dropLast
abbrev SF:=@List.filter_cons_of_pos
abbrev SG:=@Nat.zero_add
abbrev SJ:=@Nat.mul_le_mul
abbrev SL:=@decide_eq_true
abbrev SM:=@List.takeWhile_cons_of_pos
abbrev SN:=@List.getLast?_eq_getElem?
abbrev SO:=@or_false
abbrev SQ:=@List.set_append_right
abbrev SS:=@List.filterMap_append
abbrev SU:=@List.getElem?_drop
abbrev SV:=@Go.wp_loop_rounds
abbrev SZ:=@List.getLast?_eq_some_getLast
abbrev Ta:=@List.mem_of_mem_take
abbrev Tb:=@List.getLast?_concat
abbrev Tc:=@List.take_add_one
abbrev Td:=@List.getElem?_cons_zero
abbrev Te:=@List.length_range
abbrev Tf:=@Nat.add_zero
abbrev Tg:=@List.filter_eq_nil_iff
abbrev Th:=@List.cons_append
abbrev Ti:=@List.getElem?_take
abbrev Tj:=@List.takeWhile_cons_of_neg
abbrev Tl:=@List.find?_some
abbrev Tm:=@List.map_set
abbrev Tn:=@List.length_filterMap_le
abbrev To:=@List.map_cons
abbrev Tp:=@List.take_zero
abbrev Tq:=@Go.rounds_succ
abbrev Tr:=@Bool.true_or
abbrev Ts:=@List.take_of_length_le
abbrev Tu:=@List.set_cons_zero
abbrev Tv:=@ByteArray.size_extract
abbrev Tw:=@beq_iff_eq
abbrev Ty:=@List.drop_eq_nil_of_le
abbrev Tz:=@List.foldl_cons
abbrev TA:=@List.any_cons
abbrev TE:=@Bool.or_assoc
abbrev TF:=@List.contains_iff_mem
abbrev TG:=@List.any_eq_false
abbrev TH:=@List.getElem_drop
abbrev TI:=@Int.le_refl
abbrev TJ:=@List.set_append_left
abbrev TM:=@Array.toList_setIfInBounds
abbrev TN:=@Nat.le_succ
abbrev TO:=@List.dropLast_subset
abbrev TP:=@Bool.false_and
abbrev TQ:=@LawfulBEq.eq_of_beq
abbrev TR:=@List.mem_flatMap
abbrev TT:=@List.length_pos_iff
abbrev TU:=@List.mem_map_of_mem
abbrev TV:=@List.replicate_succ
abbrev TY:=@if_true
abbrev TZ:=@Nat.not_lt_zero
abbrev T0:=@Int.tmod_lt_of_pos
abbrev Ua:=@List.getElem_range
abbrev Ub:=@Nat.add_mul
abbrev Uc:=@List.length_eq_zero_iff
abbrev Ud:=@List.all_eq_false
abbrev Ue:=@Go.World.drewN_drewN
abbrev Uf:=@List.getElem?_set_self
abbrev Ug:=@Go.run_convert_bytes_back
abbrev Uh:=@List.pairwise_lt_range
abbrev Ui:=@List.filter_congr
abbrev Uj:=@Array.getElem?_setIfInBounds_ne
abbrev Uk:=@List.take_append_drop
abbrev Ul:=@Classical.choose_spec
abbrev Um:=@Array.toList_inj
abbrev Un:=@List.flatMap_def
abbrev Uo:=@List.find?_eq_some_iff_getElem
abbrev Up:=@Nat.two_pos
abbrev Uq:=@Nat.mul_le_mul_right
abbrev Ur:=@List.getElem?_set_ne
abbrev Us:=@Int.tmod_nonneg
abbrev Ut:=@List.nil_append
abbrev Uu:=@List.dropLast_concat_getLast
abbrev Uv:=@Int.toNat_of_nonneg
abbrev Uw:=@List.map_congr_left
abbrev Ux:=@List.getElem?_range
abbrev Uy:=@Nat.succ_pos
abbrev Uz:=@List.map_nil
abbrev UA:=@Nat.mod_two_eq_zero_or_one
abbrev UB:=@List.take_take
abbrev UC:=@Go.World.grownBy.refl
abbrev UD:=@List.mem_filterMap
abbrev UE:=@Go.Calls.quiet_of
abbrev UF:=@List.filter_filter
abbrev UG:=@Bool.true_eq_false
abbrev UH:=@Option.toList_some
abbrev UI:=@List.pairwise_iff_getElem
abbrev UJ:=@Nat.le_succ_of_le
abbrev UK:=@List.map_take
abbrev UL:=@List.take_set
abbrev UM:=@List.ext_getElem
abbrev UN:=@Option.getD_some
abbrev UO:=@List.getLast?_cons_cons
abbrev UP:=@beq_self_eq_true
abbrev UQ:=@Nat.lt_or_ge
abbrev UR:=@Nat.le_of_eq
abbrev US:=@Nat.zero_mul
abbrev UT:=@Option.map_some
abbrev UU:=@beq_false_of_ne
abbrev UV:=@List.any_append
abbrev UW:=@Go.run_underlying
abbrev UX:=@Bool.and_assoc
abbrev UY:=@Nat.mul_one
abbrev UZ:=@List.drop_zero
abbrev U0:=@Nat.add_assoc
abbrev U3:=@ByteArray.ext
abbrev U4:=@Bool.and_comm
theorem hI(h:ya):Hid ya:=h
abbrev Fs:=List (ByteArray×ByteArray)
structure ab(S:List Nat)(w w':World):Prop where
 os:w'.os=w.os
 tape:w'.tape=w.tape
 output:w'.output=w.output
 size:w.heap.size<=w'.heap.size
 block:∀k,k<w.heap.size->k∉S->w'.heap[k]?=w.heap[k]?
theorem ab.refl(S:List Nat)(w:World):ab S w w:=⟨rfl,rfl,rfl,QQ _,fun _ _ _=>rfl⟩
theorem ab.trans{c:World}(h:ab y b x)(k:ab y x c):ab y b c :=
 ⟨k.os.trans h.os,k.tape.trans h.tape,k.output.trans h.output,Q1 h.size k.size,
  fun i d a=>(k.block i (QW d h.size) a).trans (h.block i d a)⟩
theorem ab.mono{S':List Nat}(h:ab y b x)(d:∀k,k∈y->k<b.heap.size->k∈S'):ab S' b x :=
 ⟨h.os,h.tape,h.output,h.size,fun k a e=>h.block k a (fun c=>e (d k c a))⟩
theorem ab.drew(h:ab y b x):ab y b x.drew:=⟨h.os,h.tape,h.output,h.size,h.block⟩
theorem ab.drewN(h:ab y b x)(n:Nat):ab y b (x.drewN n):=⟨h.os,h.tape,h.output,h.size,h.block⟩
theorem ab.alloc(h:ab y b x)(o:Obj):ab y b (x.alloc o) :=
 h.trans ⟨rfl,rfl,rfl,by simp,fun k a _=>Below.heap_alloc _ _ _ a⟩
theorem ab.setCell(h:ab y b x){p:Addr}(a:p.block∈y∨b.heap.size<=p.block)(u:Value):ab y b (x.setCell p u) :=
 ⟨h.os,h.tape,h.output,by have:=h.size;simp[World.setCell];omega,fun k d c=>by
  rw[Q3 _ _ _ _ (by rintro rfl;exact a.elim c (fun a=>by omega))];exact h.block k d c⟩
theorem ab.below(h:ab [] b x):Below b.heap.size b x :=
 ⟨h.os,h.tape,h.output,h.size,fun k a=>h.block k a (by simp)⟩
theorem aa(h:b.heap[l]?=some (.cells z6 S (0,0)))(i:Nat):b.cell? ⟨l,i,none⟩=z6[i]?:=by
 unfold World.cell?;simp[h]
theorem am(h:b.heap[l]?=some (.cells z6 S (0,0)))(i:Nat):b.frozen? ⟨l,i,none⟩=false:=by
 unfold World.frozen?;simp[h]
theorem ah(h:b.heap[l]?=some (.cells z6 S (0,0)))(i:Nat)(u:Value) :
  (b.setCell ⟨l,i,none⟩ u).heap[l]?=some (.cells (z6.setIfInBounds i u) S (0,0)):=by
 simp[World.setCell,Array.getElem?_modify,h]
theorem ae(h:b.heap[l]?=some yr):l<b.heap.size:=by
 rcases UQ l b.heap.size with a | a
 ·exact a
 ·rw[Array.getElem?_eq_none a]at h;simp at h
theorem L7{f:FuncId}(h:Calls g f z6 (b.drewN (l+S)) fun e a=>e=.returned zb/\a=b.drewN (l+S)) :
  Calls g f z6 (b.drewN (l+S)) fun e a=>e=.returned zb/\∃n,a=b.drewN (l+n) :=
 h.mono fun _ _ c=>⟨c.1,S,c.2⟩
theorem aD{b:Bool}(h:zt=b):Ending.returned (.bool zt)=.returned (.bool b):=by rw[h]
theorem QM{k:IntKind}{b:Int}(h:y8=b):Ending.returned (.int k y8)=.returned (.int k b):=by rw[h]
theorem yk(h:I.toList=a.toList):I=a:=by
 rw[RY,RY]at h
 cases I;cases a
 simp only[Um]at h;rw[h]
def cO(n:Int):Bool:=n==32||n==9||n==10||n==12||n==13
def fn(n:Int):Bool:=decide (33<=n)&&decide (n<=126)
theorem kj :
  Calls prog 226 #[.int .u8 i] k fun e a=>e=.returned (.bool (cO i))/\a=k:=by
 go_enter func226,ntmps226;go_wp2
 all_goals go_ret
 all_goals (refine⟨?_,rfl⟩;simp[cO, *])
theorem ph :
  Calls prog 229 #[.int .u8 i] k fun e a=>e=.returned (.bool (fn i))/\a=k:=by
 go_enter func229,ntmps229;go_wp2
 all_goals go_ret
 all_goals (refine⟨?_,rfl⟩;first | (simp[fn, *];done) | (simp[fn];omega))
def aF(d:ByteArray)(k:Nat):Int:=if h:k<d.size then((d[k]'h).toNat:Int) else 0
theorem bP(h:w<f.size):aF f w=((f[w]'h).toNat:Int):=by unfold aF;rw[dif_pos h]
def aP(d:ByteArray):Nat->Int
 | 0=>1
 | k+1=>if aF d k==10 then aP d k+1 else aP d k
def bm(d:ByteArray):Nat->Int
 | 0=>1
 | k+1=>if aF d k==10 then 1 else bm d k+1
theorem Ag:1<=aP f w/\aP f w<=w+1:=by
 induction w with
 | zero=>simp[aP]
 | succ w a=>simp only[aP];split <;> omega
theorem zJ:1<=bm f w/\bm f w<=w+1:=by
 induction w with
 | zero=>simp[bm]
 | succ w a=>simp only[bm];split <;> omega
def mv(n d:ByteArray)(k:Nat):Array Value:=#[.string n,.string d,.int .i64 k,.int .i64 (aP d k),.int .i64 (bm d k)]
def bV(w:World)(b:Nat)(n d:ByteArray)(k:Nat):Prop:=w.heap[b]?=some (.cells (mv n d k) 300 (0,0))
theorem bV.cells(h:bV b l I a S) :
  b.cell? ⟨l,0,none⟩=some (.string I)/\b.cell? ⟨l,1,none⟩=some (.string a)/\b.cell? ⟨l,2,none⟩=some (.int .i64 S) /\
  b.cell? ⟨l,3,none⟩=some (.int .i64 (aP a S))/\b.cell? ⟨l,4,none⟩=some (.int .i64 (bm a S)):=by
 refine⟨?_,?_,?_,?_,?_⟩ <;> (rw[aa h];rfl)
theorem bV.kept(h:bV b l I a S)(c:ab y b x)(d:l∉y):bV x l I a S :=
 (c.block l (ae h) d).trans h
theorem ab.get(a:ab y b x)(h:b.heap[l]?=some yr)(c:l∉y):x.heap[l]?=some yr :=
 (a.block l (ae h) c).trans h
theorem Ay(h:bV b l I a S)(d:S<a.size)(c:((a[S].toNat:Int)==10)=true)(m:Nat) :
  bV (((((b.drewN m).setCell ⟨l,3,none⟩ (.int .i64 (aP a S+1))).setCell ⟨l,4,none⟩ (.int .i64 0)).setCell ⟨l,4,none⟩ (.int .i64 1)).setCell ⟨l,2,none⟩ (.int .i64 ((S:Int)+1))) l I a (S+1):=by
 have e:(b.drewN m).heap[l]?=some (.cells (mv I a S) 300 (0,0)):=h;have f:=ah (ah (ah (ah e 3 (.int .i64 (aP a S+1))) 4 (.int .i64 0)) 4 (.int .i64 1)) 2 (.int .i64 ((S:Int)+1));unfold bV;rw[f];simp[mv,aP,bm,bP a S d,c]
theorem ve(h:bV b l I a S)(d:S<a.size)(c:((a[S].toNat:Int)==10)=false)(m:Nat) :
  bV (((b.drewN m).setCell ⟨l,4,none⟩ (.int .i64 (bm a S+1))).setCell ⟨l,2,none⟩ (.int .i64 ((S:Int)+1))) l I a (S+1):=by
 have e:(b.drewN m).heap[l]?=some (.cells (mv I a S) 300 (0,0)):=h;have f:=ah (ah e 4 (.int .i64 (bm a S+1))) 2 (.int .i64 ((S:Int)+1));unfold bV;rw[f];simp[mv,aP,bm,bP a S d,c]
theorem C2(d:H.size<=1024)(a:w<H.size)(h:bV k T n H w) :
  Calls prog 227 #[.pointer (some ⟨T,0,none⟩)] k fun e b=>e=.returned (.tuple #[])/\bV b T n H (w+1)/\ab [T] k b:=by
 obtain⟨o,f,l,c,i⟩:=h.cells;have p:=am h 2;have q:=am h 3;have j:=am h 4;have m:=Ag H w;have g:=zJ H w;go_enter func227,ntmps227;go_wp2
 go_quiet (fail)
 go_wp2
 go_quiet (fail)
 go_wp2
 all_goals go_end0
 all_goals refine⟨rfl,?_,?_⟩
 ·exact Ay h a (by assumption) _
 ·exact((((((ab.refl _ _).drewN _).setCell (Q0 (by simp)) _).setCell (Q0 (by simp)) _).setCell (Q0 (by simp)) _).setCell (Q0 (by simp)) _)
 ·exact ve h a (by assumption) _
 ·exact((((ab.refl _ _).drewN _).setCell (Q0 (by simp)) _).setCell (Q0 (by simp)) _)
theorem yT(h:bV k T n H w) :
  Calls prog 228 #[.pointer (some ⟨T,0,none⟩)] k fun e a=>e=.returned (.agg #[.string n,.int .i64 (aP H w),.int .i64 (bm H w)])/\ab [] k a:=by
 obtain⟨g,c,f,b,d⟩:=h.cells;have i:=ae h;go_enter func228,ntmps228;go_wp2
 go_region
 all_goals go_wp2
 exact QX (v:=.agg #[.string n,.int .i64 (aP H w),.int .i64 (bm H w)]) (by simp[results,results228,go_sem]) rfl ⟨rfl,((ab.refl _ _).alloc _).drew⟩
def pX(d:ByteArray):Nat->Nat->Nat
 | 0,k=>k
 | f+1,k=>if k<d.size/\cO (aF d k)=true then pX d f (k+1) else k
def skip(d:ByteArray)(k:Nat):Nat:=pX d (d.size-k) k
def p9(d:ByteArray):Nat->Nat->Nat
 | 0,k=>k
 | f+1,k=>if k<d.size/\cO (aF d k)=false/\fn (aF d k)=true then p9 d f (k+1) else k
def cG(d:ByteArray)(k:Nat):Nat:=p9 d (d.size-k) k
theorem GJ(h:w<f.size)(a:cO (aF f w)=true):skip f w=skip f (w+1):=by
 unfold skip;rw[show f.size-w=(f.size-(w+1))+1 by omega];rw[pX,QV ⟨h,a⟩]
theorem tu(h:¬(w<f.size/\cO (aF f w)=true)):skip f w=w:=by
 unfold skip
 cases f.size-w with
 | zero=>rfl
 | succ a=>rw[pX,QS h]
theorem GS(h:w<f.size)(a:cO (aF f w)=false)(b:fn (aF f w)=true):cG f w=cG f (w+1):=by
 unfold cG;rw[show f.size-w=(f.size-(w+1))+1 by omega];rw[p9,QV ⟨h,a,b⟩]
theorem xv(h:¬(w<f.size/\cO (aF f w)=false/\fn (aF f w)=true)):cG f w=w:=by
 unfold cG
 cases f.size-w with
 | zero=>rfl
 | succ a=>rw[p9,QS h]
theorem zf:w<=pX f T w/\(w<=f.size->pX f T w<=f.size):=by
 induction T generalizing w with
 | zero=>simp[pX]
 | succ T a =>
  rw[pX];split
  ·have:=a (w+1);omega
  ·omega
theorem zr:w<=p9 f T w/\(w<=f.size->p9 f T w<=f.size):=by
 induction T generalizing w with
 | zero=>simp[p9]
 | succ T a =>
  rw[p9];split
  ·have:=a (w+1);omega
  ·omega
theorem Az(h:w<=f.size):w<=skip f w/\skip f w<=f.size:=⟨(zf f _ w).1,(zf f _ w).2 h⟩
theorem rP(h:w<=f.size):w<=cG f w/\cG f w<=f.size:=⟨(zr f _ w).1,(zr f _ w).2 h⟩
structure rS where
 text:ByteArray
 rule:Int
 fin:Bool
 pos:Nat
def fg(n d:ByteArray)(i:rS):Value:=.agg #[.string i.text,.int .i64 i.rule,.bool i.fin,.string n,.int .i64 (aP d i.pos),.int .i64 (bm d i.pos)]
def bC(d:ByteArray)(k:Nat):rS×Nat :=
 let a:=skip d k
 let z:=cG d a
 if z<d.size/\cO (aF d z)=false then(⟨⟨#[]⟩,1,false,z⟩,z)
 else if z<=a then(⟨⟨#[]⟩,0,true,a⟩,z)
 else(⟨d.extract a z,0,false,a⟩,z)
theorem CU(a:T=skip d o)(f:cG d w=cG d T)(b:w<d.size)(g:cO (aF d w)=false)(c:fn (aF d w)=false) :
  bC d o=(⟨⟨#[]⟩,1,false,w⟩,w):=by
 have e:cG d (skip d o)=w:=by rw[<-a,<-f];exact xv d w (fun h=>by simp[c]at h)
 simp only[bC,e];rw[QV ⟨b,g⟩]
theorem CV(a:T=skip d o)(c:cG d w=cG d T)(b:¬(w<d.size/\cO (aF d w)=false))(f:w<=T) :
  bC d o=(⟨⟨#[]⟩,0,true,T⟩,w):=by
 have e:cG d (skip d o)=w:=by rw[<-a,<-c];exact xv d w (fun h=>b ⟨h.1,h.2.1⟩)
 simp only[bC,e];rw[QS b,<-a,QV f]
theorem zc(a:T=skip d o)(c:cG d w=cG d T)(b:¬(w<d.size/\cO (aF d w)=false))(f:T<w) :
  bC d o=(⟨d.extract T w,0,false,T⟩,w):=by
 have e:cG d (skip d o)=w:=by rw[<-a,<-c];exact xv d w (fun h=>b ⟨h.1,h.2.1⟩)
 simp only[bC,e];rw[QS b,<-a,QS (by omega)]
theorem Kb :
  (∃h:w<f.size,cO ((f[w]'h).toNat:Int)=false/\fn ((f[w]'h).toNat:Int)=true/\cG f (w+1)=cG f w) ∨
  (∃h:w<f.size,cO ((f[w]'h).toNat:Int)=false/\fn ((f[w]'h).toNat:Int)=false) ∨
  (∃h:w<f.size,cO ((f[w]'h).toNat:Int)=true)∨(¬w<f.size/\decide ((w:Int)<(f.size:Int))=false):=by
 by_cases h:w<f.size
 ·have e:=bP f w h
  cases a:cO (aF f w) with
  | true=>exact QU (QU (Q0 ⟨h,e ▸ a⟩))
  | false =>
   cases b:fn (aF f w) with
   | true=>exact Q0 ⟨h,e ▸ a,e ▸ b,(GS f w h a b).symm⟩
   | false=>exact QU (Q0 ⟨h,e ▸ a,e ▸ b⟩)
 ·exact QU (QU (QU ⟨h,by simp;omega⟩))
def kI(n:Int):Bool:=decide (33<=n)&&decide (n<=126) && !(n==36)
def fV(s:ByteArray):Bool:=decide (1<=s.size)&&decide (s.size<=8)&&(List.range s.size).all (fun i=>kI (aF s i))
def cJ(n d:ByteArray):Int:=if fV n=false then 2 else if 1024<d.size then 3 else 0
theorem mm(h:H.size<1∨8<H.size):fV H=false:=by
  unfold fV
  rcases h with h | h
  · simp[show ¬1<=H.size by omega]
  · simp[show ¬H.size<=8 by omega]
theorem Ej(h:w<f.size)(a:kI (aF f w)=false):fV f=false:=by
  unfold fV
  have:(List.range f.size).all (fun w=>kI (aF f w))=false:=by
    rw[Ud];exact⟨w,by simp[h],by simp[a]⟩
  simp[this]
theorem Cc(c:1<=H.size)(a:H.size<=8)(h:∀i,i<H.size->kI (aF H i)=true):fV H=true:=by
  unfold fV
  have:(List.range H.size).all (fun i=>kI (aF H i))=true:=by
    rw[Sk];intro i b;exact h i (by simpa using b)
  simp[this,c,a]
theorem rx(r:H.size<=1073741824) :
    Calls prog 77 #[.string H] k fun e o=>e=.returned (.bool (fV H))/\o=k:=by
  by_cases n:1<=H.size
  · by_cases l:H.size<=8
    · go_enter func77,ntmps77
      go_wp2
      go_loopg [3] H.size (fun g i wr=>∃a:Nat,a<=H.size/\g=H.size-a/\i=.int .i64 a/\Hid (∀i,i<a->kI (aF H i)=true)/\wr=k)
      case atStart=>exact⟨0,by omega,by omega,rfl,fun i h=>by omega,rfl⟩
      case round =>
        obtain⟨a,q,p,rfl,c,rfl⟩:=hrel
        by_cases d:a<H.size
        · have f:∀b:Bool,kI (H[a].toNat:Int)=b->kI (aF H a)=b:=fun b h=>by rw[bP H a d];exact h
          have j:Hid (∀b:Bool,kI (H[a].toNat:Int)=b->kI (aF H a)=b):=f;clear f;go_wp2
          all_goals first
            | (go_ret;refine⟨aD ?_,rfl⟩;rw[Ej H a d (j.out false ?_)];first | (simp[kI];omega) | (simp[kI];simp at *;omega))
            | (go_roundg (H.size-(a+1))
               case measure=>omega
               case rel =>
                 refine⟨a+1,by omega,rfl,by go_num,?_,rfl⟩;intro i m
                 by_cases e:i=a
                 · subst e;exact j.out true (by simp[kI];simp at *;omega)
                 · exact c.out i (by omega))
        · go_wp2
          go_ret;exact⟨aD (Cc H n l (fun i m=>c.out i (by omega))).symm,rfl⟩
    · go_enter func77,ntmps77
      go_wp2
      all_goals go_ret
      all_goals exact⟨aD (mm H (QU (by omega))).symm,rfl⟩
  · go_enter func77,ntmps77
    go_wp2
    all_goals go_ret
    all_goals exact⟨aD (mm H (Q0 (by omega))).symm,rfl⟩
theorem nL(a:n.size<=1073741824)(g:H.size<=4294967296) :
    Calls prog 49 #[.string n,.string H] k fun e f=>e=.returned (.int .i64 (cJ n H))/\f=k:=by
  cases b:fV n
  · go_enter func49,ntmps49
    go_wp2_with fail;refine(rx n _ a).mono ?_;rintro e c ⟨rfl,rfl⟩;go_wp2;go_ret;exact⟨QM (by simp[cJ,b]),rfl⟩
  · by_cases d:1024<H.size
    · go_enter func49,ntmps49
      go_wp2_with fail;refine(rx n _ a).mono ?_;rintro e c ⟨rfl,rfl⟩;go_wp2;go_ret;exact⟨QM (by simp[cJ,b,d]),rfl⟩
    · go_enter func49,ntmps49
      go_wp2_with fail;refine(rx n _ a).mono ?_;rintro e c ⟨rfl,rfl⟩;go_wp2;go_ret;exact⟨QM (by simp[cJ,b,d]),rfl⟩
def aE(fs:Fs)(i:Nat):ByteArray:=(fs.getD i (⟨#[]⟩,⟨#[]⟩)).1
def ak(fs:Fs)(i:Nat):ByteArray:=(fs.getD i (⟨#[]⟩,⟨#[]⟩)).2
def oV(fs:Fs):List Value :=
  [.string (aE fs 0),.string (ak fs 0),.string (aE fs 1),.string (ak fs 1),.string (aE fs 2),.string (ak fs 2),.string (aE fs 3),.string (ak fs 3),.int .i64 fs.length]
def bi(w:World)(v t:Nat)(fs:Fs)(more:List Value):Prop:=w.heap[v]?=some (.cells (oV fs++more).toArray t (0,0))/\fs.length<=4
theorem bi.name{a:Fs}(h:bi b l S a D)(i:Nat)(c:i<4) :
    b.cell? ⟨l,i*2,none⟩=some (.string (aE a i))/\b.cell? ⟨l,i*2+1,none⟩=some (.string (ak a i)):=by
  constructor <;> rw[aa h.1]
  · match i,c with
    | 0,_=>rfl
    | 1,_=>rfl
    | 2,_=>rfl
    | 3,_=>rfl
  · match i,c with
    | 0,_=>rfl
    | 1,_=>rfl
    | 2,_=>rfl
    | 3,_=>rfl
theorem bi.count{a:Fs}(h:bi b l S a D) :
    b.cell? ⟨l,8,none⟩=some (.int .i64 a.length):=by
  rw[aa h.1];rfl
def du(n:ByteArray):Fs->Nat->Int
  | [],_=>-1
  | f :: r,i=>if(f.1.toList==n.toList)=true then i else du n r (i+1)
def bF(fs:Fs)(n:ByteArray):Int:=du n fs 0
theorem Ga{α:Type}(l:List α)(k:Nat)(h:k<l.length):l.drop k=l[k] :: l.drop (k+1):=Re h
theorem yo(a:Fs)(k:Nat)(h:k<a.length):aE a k=a[k].1:=by
  unfold aE;rw[QP,QO h];rfl
theorem BB(a:Fs)(n:ByteArray)(k:Nat)(h:k<a.length)(b:bF a n=du n (a.drop k) k)(c:((aE a k).toList==n.toList)=true):bF a n=k:=by
  rw[b,Ga _ _ h,du,<-yo a k h,QV c]
theorem yq(a:Fs)(n:ByteArray)(k:Nat)(h:k<a.length)(b:bF a n=du n (a.drop k) k)(c:((aE a k).toList==n.toList)=false):bF a n=du n (a.drop (k+1)) (k+1):=by
  rw[b,Ga _ _ h,du,<-yo a k h,QS (by simp[c])]
theorem yw(a:Fs)(n:ByteArray)(k:Nat)(h:¬k<a.length)(b:bF a n=du n (a.drop k) k):bF a n=-1:=by
  rw[b,R6 (by omega),du]
theorem lM(b:Fs)(f:List Value)(n:ByteArray)(j:World)(h:bi j T w b f) :
    Calls prog 50 #[.pointer (some ⟨T,0,none⟩),.string n] j fun e p=>e=.returned (.int .i64 (bF b n))/\p=j:=by
  have m:=h.count;have l:=h.2;go_enter func50,ntmps50;go_wp2
  go_loopg [5] b.length (fun g i wr=>∃k:Nat,k<=b.length/\g=b.length-k/\i=.int .i64 k/\Hid (bF b n=du n (b.drop k) k)/\wr=j)
  case atStart=>exact⟨0,by omega,by omega,rfl,rfl,rfl⟩
  case round =>
    obtain⟨k,q,s,rfl,a,rfl⟩:=hrel
    by_cases c:k<b.length
    · obtain⟨t,r⟩:=h.name k (by omega)
      cases o:((aE b k).toList==n.toList)
      · have d:Hid (bF b n=du n (b.drop (k+1)) (k+1)):=yq b n k c a.out o
        clear a;go_wp2
        go_roundg (b.length-(k+1))
        case measure=>omega
        case rel=>exact⟨k+1,by omega,rfl,by go_num,d,rfl⟩
      · have d:Hid (bF b n=k):=BB b n k c a.out o
        clear a;go_wp2;go_ret;exact⟨QM d.out.symm,rfl⟩
    · have d:Hid (bF b n=-1):=yw b n k c a.out
      clear a;go_wp2;go_ret;exact⟨QM d.out.symm,rfl⟩
theorem bi.free{a:Fs}(h:bi b l S a D)(i:Nat):b.frozen? ⟨l,i,none⟩=false:=am h.1 i
theorem bi.kept{a:Fs}(h:bi b l S a D)(c:ab y b x)(d:l∉y):bi x l S a D :=
 ⟨c.get h.1 d,h.2⟩
theorem bi.lt{a:Fs}(h:bi b l S a D):l<b.heap.size:=ae h.1
theorem Ld(a:Fs)(b:List Value)(c:World)(h:bi c o T a b)(j:w<a.length) :
  Calls prog 154 #[.pointer (some ⟨o,0,none⟩),.int .i64 w] c fun e i=>e=.returned (.agg #[.string (aE a w),.string (ak a w)])/\ab [] c i:=by
 have d:=h.count;have f:=h.2;have g:=h.lt;obtain⟨k,l⟩:=h.name w (by omega);go_enter func154,ntmps154;go_wp2;exact QX (v:=.agg #[.string (aE a w),.string (ak a w)]) (by simp[results,results154,go_sem]) rfl ⟨rfl,(ab.refl _ _).alloc _⟩
theorem Od(f:Fs)(e:List Value)(n d:ByteArray)(h:f.length<4) :
  (((oV f++e).set (f.length*2) (.string n)).set (f.length*2+1) (.string d)).set 8 (.int .i64 ((f.length:Int)+1))=oV (f++[(n,d)])++e:=by
 match f,h with
 | [],_=>rfl
 | [a],_=>rfl
 | [a,b],_=>rfl
 | [a,b,c],_=>rfl
theorem Oe(g:Fs)(f:List Value)(n d:ByteArray)(k:Nat)(i:k<g.length)(h:g.length<=4) :
  ((oV g++f).set (k*2) (.string n)).set (k*2+1) (.string d)=oV (g.set k (n,d))++f:=by
 match g,h,k,i with
 | [a],_,0,_=>rfl
 | [a,b],_,0,_=>rfl
 | [a,b],_,1,_=>rfl
 | [a,b,c],_,0,_=>rfl
 | [a,b,c],_,1,_=>rfl
 | [a,b,c],_,2,_=>rfl
 | [a,b,c,e],_,0,_=>rfl
 | [a,b,c,e],_,1,_=>rfl
 | [a,b,c,e],_,2,_=>rfl
 | [a,b,c,e],_,3,_=>rfl
theorem bi.added{a:Fs}(h:bi b l S a D)(n d:ByteArray)(c:a.length<4) :
  bi (((b.setCell ⟨l,a.length*2,none⟩ (.string n)).setCell ⟨l,a.length*2+1,none⟩ (.string d)).setCell ⟨l,8,none⟩ (.int .i64 ((a.length:Int)+1))) l S (a++[(n,d)]) D:=by
 have e:=ah (ah (ah h.1 (a.length*2) (.string n)) (a.length*2+1) (.string d)) 8 (.int .i64 ((a.length:Int)+1));refine⟨?_,by simp;omega⟩;rw[e];simp only[Rt,Od a D n d c]
theorem bi.turned{a:Fs}(h:bi b l S a D)(n d:ByteArray)(k:Nat)(c:k<a.length) :
  bi ((b.setCell ⟨l,k*2,none⟩ (.string n)).setCell ⟨l,k*2+1,none⟩ (.string d)) l S (a.set k (n,d)) D:=by
 have e:=ah (ah h.1 (k*2) (.string n)) (k*2+1) (.string d);refine⟨?_,by simpa using h.2⟩;rw[e];simp only[Rt,Oe a D n d k c h.2]
theorem FV(b:Fs)(a:List Value)(c:World)(h:bi c T w b a)(i:b.length<4) :
  Calls prog 51 #[.pointer (some ⟨T,0,none⟩),.agg #[.string n,.string H]] c fun e f=>e=.returned (.tuple #[])/\bi f T w (b++[(n,H)]) a/\ab [T] c f:=by
 have d:=h.count;have j:=h.free;have g:=h.lt;obtain⟨k,l⟩:=h.name b.length (by omega);go_enter func51,ntmps51;go_wp2
 go_region
 all_goals go_wp2
 all_goals go_end0
 exact⟨rfl,(h.added n H i).kept ((ab.refl [] _).alloc _ |>.drew) (by simp),((((ab.refl _ _).setCell (Q0 (by simp)) _).setCell (Q0 (by simp)) _).setCell (Q0 (by simp)) _).alloc _ |>.drew⟩
def fc(fs:Fs)(n d:ByteArray):Int×Fs :=
 if cJ n d≠0 then(cJ n d,fs)
 else if 0<=bF fs n then(0,fs.set (bF fs n).toNat (n,d))
 else if 4<=fs.length then(1,fs) else(0,fs++[(n,d)])
theorem Bz(a:Fs)(i:Nat):du H a i=-1∨((i:Int)<=du H a i/\du H a i<i+a.length):=by
 induction a generalizing i with
 | nil=>exact Q0 rfl
 | cons f r b =>
  rw[du];split
  ·exact QU ⟨by omega,by simp;omega⟩
  ·rcases b (i+1) with h | h
   ·exact Q0 h
   ·exact QU ⟨by omega,by simp;omega⟩
theorem pH(a:Fs):bF a H=-1∨∃k:Nat,k<a.length/\bF a H=k:=by
 rcases Bz H a 0 with h | h
 ·exact Q0 h
 ·refine QU ⟨(bF a H).toNat,?_,?_⟩ <;> (unfold bF;omega)
theorem GC(a:Fs)(b:List Value)(o:World)(h:bi o T w a b)(l:n.size<=1073741824)(m:H.size<=4294967296) :
  Calls prog 32 #[.pointer (some ⟨T,0,none⟩),.string n,.string H] o fun e s=>e=.returned (.int .i64 (fc a n H).1)/\bi s T w (fc a n H).2 b/\ab [T] o s:=by
 have t:=h.count;have z:=h.lt;have r:=h.2
 by_cases c:cJ n H=0
 ·rcases pH n a with g | ⟨k,u,g⟩
  ·by_cases q:4<=a.length
   ·have f:Hid (fc a n H=(1,a)):=by show fc a n H=_;simp[fc,c,g,q]
    have j:Hid (cJ n H=0):=c;have d:Hid (bF a n=-1):=g;clear c g;go_enter func32,ntmps32;go_wp2_with fail;refine(nL n H _ l m).mono ?_;rintro e i ⟨rfl,rfl⟩;rw[j.out];go_wp2_with fail;refine(lM T w a b n _ (by exact h.kept ((ab.refl [] _).alloc _) (by simp))).mono ?_;rintro e i ⟨rfl,rfl⟩;rw[d.out];go_wp2;go_ret;exact⟨QM (by rw[f.out]),by rw[f.out];exact h.kept ((ab.refl [] _).alloc _) (by simp),(ab.refl _ _).alloc _⟩
   ·have f:Hid (fc a n H=(0,a++[(n,H)])):=by show fc a n H=_;simp[fc,c,g,q]
    have j:Hid (cJ n H=0):=c;have d:Hid (bF a n=-1):=g;clear c g;go_enter func32,ntmps32;go_wp2_with fail;refine(nL n H _ l m).mono ?_;rintro e i ⟨rfl,rfl⟩;rw[j.out];go_wp2_with fail;refine(lM T w a b n _ (by exact h.kept ((ab.refl [] _).alloc _) (by simp))).mono ?_;rintro e i ⟨rfl,rfl⟩;rw[d.out];go_wp2_with fail;refine(FV T w n H a b _ (by exact h.kept ((ab.refl [] _).alloc _) (by simp)) (by omega)).mono ?_;rintro e B ⟨rfl,v,p⟩;go_wp2;go_ret;exact⟨QM (by rw[f.out]),by rw[f.out];exact v,((ab.refl _ _).alloc _).trans p⟩
  ·have f:Hid (fc a n H=(0,a.set k (n,H))):=by show fc a n H=_;simp[fc,c,g]
   have j:Hid (cJ n H=0):=c;have d:Hid (bF a n=k):=g;obtain⟨C,A⟩:=h.name k (by omega);have y:=h.free;clear c g;go_enter func32,ntmps32;go_wp2_with fail;refine(nL n H _ l m).mono ?_;rintro e i ⟨rfl,rfl⟩;rw[j.out];go_wp2_with fail;refine(lM T w a b n _ (by exact h.kept ((ab.refl [] _).alloc _) (by simp))).mono ?_;rintro e i ⟨rfl,rfl⟩;rw[d.out];go_wp2_with fail
   go_region
   all_goals go_wp2
   all_goals go_ret
   exact⟨QM (by rw[f.out]),by rw[f.out];exact(h.turned n H k u).kept ((ab.refl [] _).alloc _ |>.drew) (by simp),(((ab.refl _ _).setCell (Q0 (by simp)) _).setCell (Q0 (by simp)) _).alloc _ |>.drew⟩
 ·have f:Hid (fc a n H=(cJ n H,a)):=by show fc a n H=_;simp[fc,c]
  have x:(cJ n H != 0)=true:=by simp[c]
  clear c;go_enter func32,ntmps32;go_wp2_with fail;refine(nL n H _ l m).mono ?_;rintro e i ⟨rfl,rfl⟩;go_wp2;go_ret;exact⟨QM (by rw[f.out]),by rw[f.out];exact h,ab.refl _ _⟩
structure Hd where
 ao:Option Addr
 cap:Nat
def Hd.blk(h:Hd):Option Nat:=h.ao.map (·.block)
structure dN where
 e:TypeId
 size:Nat
 n:Nat
 xs:List Value
def aw(w:World)(h:Hd)(r:dN):Prop:=w.ownsRow 0 r.e r.size (.slice h.ao r.n h.cap) r.n r.xs
theorem Ap(h:Hd)(n:Nat):(Value.slice h.ao n h.cap).ownBlock=h.blk:=by
 unfold Hd.blk;cases h.ao <;> rfl
theorem aw.lt{h:Hd}{r:dN}(o:aw b h r){k:Nat}(a:h.blk=some k):k<b.heap.size :=
 (World.ownsRow.lt (h:=o) k (by rw[Ap];exact a)).2
theorem aw.Vf{w':World}{h:Hd}{r:dN}(o:aw b h r)(j:∀k,h.blk=some k->w'.heap[k]?=b.heap[k]?):aw w' h r:=by
 refine⟨o.1,?_⟩
 rcases o.2 with l | ⟨g,d,c,a,p,e,n,f,i,m⟩
 ·exact Q0 l
 ·refine QU ⟨g,d,c,a,p,?_,n,f,i,m⟩
  rw[j g (by unfold Hd.blk;injection a with a;rw[a];rfl)];exact e
theorem aw.ways{h:Hd}{r:dN}(o:aw b h r) :
  (h=⟨none,0⟩/\r.n=0/\r.xs=[])∨∃g a,h.ao=some ⟨g,0,none⟩/\b.heap[g]?=some (.cells a r.e (0,0))/\r.n<=h.cap/\h.cap<=maxLen/\a.size=h.cap*r.size/\a.toList.take (r.n*r.size)=r.xs:=by
 rcases o.2 with ⟨c,i⟩ | ⟨g,m,a,c,t,j,q,k,l,p⟩
 ·left
  injection c with d s f
  refine⟨by cases h;simp_all,i,Rj (by rw[o.1,i];simp)⟩
 ·right
  injection c with d s f
  subst f;exact⟨g,a,d,j,q,k,l,p⟩
theorem bL:(⟨T,0,none⟩:Addr).add w=⟨T,w,none⟩:=by
 simp only[Addr.add]
 split
 ·next h=>subst h;rfl
 ·simp
theorem aw.cell{h:Hd}{r:dN}(o:aw b h r)(c:h.ao=some ⟨l,0,none⟩)(j:Nat)(u:Value)(a:r.xs[j]?=some u):b.cell? ⟨l,j,none⟩=some u:=by
 have:=o.cells (g:=l) (by rw[Ap];unfold Hd.blk;rw[c];rfl) j u a;rw[bL]at this;exact this
theorem aM{y:List Oper}(S:z4.guard=none)(s x:Operand)(t:TypeId)(D:z4.op=Op.call { callee:=Callee.builtin Builtin.append,args:=#[s,x],argTypes:=#[t,t] })(i:TypeInfo)(z:Value)(f:Nat)(h:Hd)(r:dN)(N:g.underlying t=some (.slice r.e))(O:g.info? r.e=some i)(h3:i.zero=some z)(Z:i.size=r.size)(h5:i.bytes=f)(h6:z.cells.size=r.size)(h7:0<r.size)(V:z5.eval s=.slice h.ao r.n h.cap)(o:aw k h r)(F:Addr)(m c:Nat)(d:List Value)(X:z5.eval x=.slice (some F) m c)(K:d.length=m*r.size)(H:∀j u,d[j]?=some u->k.cell? (F.add j)=some u)(A:∀u∈d,u.oneCell'=true)(hm:0<m)(b1:r.n+m<=maxLen)(P:(r.n+m)*f<=140737488355328)(R:∀p a w,aw w ⟨some ⟨p,0,none⟩,a⟩ ⟨r.e,r.size,r.n+m,r.xs++d⟩->k.grownBy w h.blk->(h.blk=some p∨k.heap.size<=p)->wpList g y9 ys y (z5.put z4.dst (.slice (some ⟨p,0,none⟩) (r.n+m) a)) w) :
  wpList g y9 ys (z4 :: y) z5 k:=by
 rcases o.ways with ⟨v,C,W⟩ | ⟨p,G,v,C,W,e4,e5,e6⟩
 ·refine wpList_append_grows k S s x t D r.e i z r.size f N O h3 Z h5 h6 h7 none 0 0 [] (by rw[V,v,C]) (fun _=>⟨rfl,rfl⟩) (by simp) (by intro b U;cases U) F m c d X K H A (by omega) (by omega) (by rw[C]at P;exact P) ?_
  intro v' w B l
  rcases B.2 with ⟨_,q⟩ | ⟨p,a,G,L,I,T,M,Q,J,Y⟩
  ·omega
  ·have:=R p a w ⟨by have:=B.1;simpa [W,C] using this,QU ⟨p,a,G,by simp,Rn _,T,by simpa [C] using M,Q,J,by simpa [C,W] using Y⟩⟩ (by rw[v];exact l) (QU I)
   rw[L];simpa [C] using this
 ·by_cases hf:r.n+m<=h.cap
  ·refine wpList_append_fits k S s x t D 0 r.e i r.size N O Z p r.n h.cap r.xs (by rw[V,v]) (by have:=o;unfold aw at this;rw[v]at this;exact this) F m c d X K H A hf ?_
   intro w B l;exact R p h.cap w B (by unfold Hd.blk;rw[v];exact l) (Q0 (by unfold Hd.blk;rw[v];rfl))
  ·refine wpList_append_grows k S s x t D r.e i z r.size f N O h3 Z h5 h6 h7 (some ⟨p,0,none⟩) r.n h.cap r.xs (by rw[V,v]) (by intro hh;cases hh) o.1 (by intro b U j u hj;cases U;rw[bL];exact o.cell v j u hj) F m c d X K H A (by omega) b1 P ?_
   intro v' w B l
   rcases B.2 with ⟨_,q⟩ | ⟨g',a,E,L,I,T,M,Q,J,Y⟩
   ·omega
   ·have:=R g' a w ⟨B.1,QU ⟨g',a,E,rfl,Rn _,T,M,Q,J,Y⟩⟩ ⟨l.os,l.tape,l.output,l.size,fun ac hk _=>l.block ac hk (by simp)⟩ (QU I)
    rw[L];exact this
theorem xO{P:Program}(b:TypeId)(g m a:Nat)(h:Hd)(r:dN)(c:Array Value)(t:TypeId)(y:P.underlying z7=some (.slice b))(q:(P.info? b).map (·.size)=some a)(x:r.size=a)(B:v.heap[g]?=some (.cells c t (0,0)))(f:aw v h r)(A:c.size=r.n*a)(u:∀o∈r.xs,o.oneCell'=true) :
  (Builtin.copy_ #[z7,L] M #[.slice (some ⟨g,0,none⟩) r.n m,.slice h.ao r.n h.cap]).run P v=.ok (goInt r.n) (v.setRow g r.xs.toArray):=by
 have w:r.xs.length=r.n*a:=by have:=f.1;rw[x]at this;exact this
 have d:=run_storeCells_at P g 0 t r.xs 0 c v B (by simp;omega) u
 have z:(c.toList.take (0+0)++r.xs++c.toList.drop (0+0+r.xs.length))=r.xs:=by
  simp;omega
 rw[z]at d
 have k:(Builtin.firstCells a r.n (.slice h.ao r.n h.cap)).run P v=.ok r.xs.toArray v:=by
  rcases f.ways with ⟨e,F,E⟩ | ⟨C,p,e,_⟩
  ·rw[e,E];exact run_firstCells_none v _ _ _ _
  ·rw[e];exact run_firstCells_some v a r.n ⟨C,0,none⟩ r.n h.cap r.xs w (fun j o D=>by rw[bL];exact f.cell e j o D)
 cases l:P.info? b with
 | none=>simp[l]at q
 | some i =>
  have s:i.size=a:=by simpa [l] using q
  simp[Builtin.copy_,UW y,Builtin.lenOf,sizeOf,typeInfo,l,s,k,d]
theorem uI(h:ab y b x)(a:l∈y∨b.heap.size<=l)(c:Array Value):ab y b (x.setRow l c) :=
 ⟨h.os,h.tape,h.output,by have:=h.size;simp[World.setRow];omega,fun k e d=>by
  rw[setRow_other x l k c (by rintro rfl;exact a.elim d (fun a=>by omega))];exact h.block k e d⟩
theorem tO{P:Program}(h:Hd)(r:dN)(a:Array Value)(t:TypeId)(g:P.underlying z7=some (.slice r.e))(f:(P.info? r.e).map (·.size)=some r.size)(d:v.heap[T]?=some (.cells a t (0,0)))(j:aw v h r)(c:a.size=r.n*r.size)(i:∀v∈r.xs,v.oneCell'=true) :
  ∃b,(Builtin.copy_ #[z7,L] M #[.slice (some ⟨T,0,none⟩) r.n w,.slice h.ao r.n h.cap]).run P v=.ok (goInt r.n) b/\b.heap[T]?=some (.cells r.xs.toArray t (0,0))/\ab [T] v b/\b.heap.size=v.heap.size :=
 ⟨_,xO (P:=P) v z7 L M r.e T w r.size h r a t g f rfl d j c i,setRow_heap v T _ _ t _ d,uI (ab.refl _ _) (Q0 (by simp)) _,by simp[World.setRow]⟩
theorem aw.made{r:dN}(d:b.heap[l]?=some (.cells r.xs.toArray r.e (0,0)))(a:r.xs.length=r.n*r.size)(c:r.n<=maxLen):aw b ⟨some ⟨l,0,none⟩,r.n⟩ r :=
 ⟨a,QU ⟨l,r.n,r.xs.toArray,rfl,Rn _,d,QQ _,c,by simpa using a,by simp[<-a]⟩⟩
theorem pW{P:Program}(h:Hd)(r:dN)(G:P.underlying L=some (.slice r.e))(H:P.info? r.e=some N)(U:N.zero=some y0)(R:N.size=r.size)(S:N.bytes=w)(T:y0.cells.size=r.size)(W:0<r.size)(i:aw v h r)(y:Addr)(m c:Nat)(b:List Value)(D:b.length=m*r.size)(A:∀j u,b[j]?=some u->v.cell? (y.add j)=some u)(t:∀u∈b,u.oneCell'=true)(hm:0<m)(b1:r.n+m<=maxLen)(I:(r.n+m)*w<=140737488355328) :
  ∃g a o,(Builtin.append_ #[L,L] M #[.slice h.ao r.n h.cap,.slice (some y) m c]).run P v=.ok (.slice (some ⟨g,0,none⟩) (r.n+m) a) o /\
   aw o ⟨some ⟨g,0,none⟩,a⟩ ⟨r.e,r.size,r.n+m,r.xs++b⟩/\v.grownBy o h.blk/\(h.blk=some g∨v.heap.size<=g):=by
 rcases i.ways with ⟨l,s,O⟩ | ⟨g,z,l,s,O,e4,e5,e6⟩
 ·obtain⟨Y,o,f,p,d,_⟩:=run_append_own (P:=P) v v.heap.size L M r.e N y0 r.size w G H U R S T W (.slice none 0 0) 0 [] (QY v _ r.e r.size) y m c b D A t (by omega) (by rw[s]at I;exact I) (QQ _)
  rcases p.2 with ⟨_,q⟩ | ⟨g,a,z,E,B,K,F,J,C,Q⟩
  ·omega
  ·refine⟨g,a,o,?_,⟨by have:=p.1;simpa [O,s] using this,QU ⟨g,a,z,by simp,Rn _,K,by simpa [s] using F,J,C,by simpa [s,O] using Q⟩⟩,?_,QU B⟩
   ·rw[l,s,f,E]
   ·rw[l];exact d
 ·by_cases hf:r.n+m<=h.cap
  ·obtain⟨o,f,p,d⟩:=run_append_fits (P:=P) v 0 L M r.e N r.size G H R g r.n h.cap r.xs (by have:=i;unfold aw at this;rw[l]at this;exact this) y m c b D A t hf
   exact⟨g,h.cap,o,by rw[l,f],p,by unfold Hd.blk;rw[l];exact d,Q0 (by unfold Hd.blk;rw[l];rfl)⟩
  ·obtain⟨Y,o,f,p,d⟩:=run_append_arg_grows (P:=P) v L M r.e N y0 r.size w G H U R S T W ⟨g,0,none⟩ r.n h.cap r.xs i.1 (by intro j u Z;rw[bL];exact i.cell l j u Z) y m c b D A (by omega) b1 I
   rcases p.2 with ⟨_,q⟩ | ⟨V,a,x,E,B,K,F,J,C,Q⟩
   ·omega
   ·exact⟨V,a,o,by rw[l,f,E],⟨p.1,QU ⟨V,a,x,rfl,Rn _,K,F,J,C,Q⟩⟩,⟨d.os,d.tape,d.output,d.size,fun k X _=>d.block k X (by simp)⟩,QU B⟩
theorem cd{K:Act->World->Prop}(O:z4.guard=none)(s x:Operand)(t:TypeId)(v:z4.op=Op.call { callee:=Callee.builtin Builtin.append,args:=#[s,x],argTypes:=#[t,t] })(i:TypeInfo)(z:Value)(d:Nat)(h:Hd)(r:dN)(D:g.underlying t=some (.slice r.e))(F:g.info? r.e=some i)(H:i.zero=some z)(T:i.size=r.size)(C:i.bytes=d)(E:z.cells.size=r.size)(S:0<r.size)(P:z5.eval s=.slice h.ao r.n h.cap)(o:aw b h r)(w:Addr)(m c:Nat)(a:List Value)(R:z5.eval x=.slice (some w) m c)(A:a.length=m*r.size)(y:∀j u,a[j]?=some u->b.cell? (w.add j)=some u)(q:∀u∈a,u.oneCell'=true)(L:0<m)(Q:r.n+m<=maxLen)(J:(r.n+m)*d<=140737488355328)(N:∀k f l,aw l ⟨some ⟨k,0,none⟩,f⟩ ⟨r.e,r.size,r.n+m,r.xs++a⟩->b.grownBy l h.blk->(h.blk=some k∨b.heap.size<=k)->K (z5.put z4.dst (.slice (some ⟨k,0,none⟩) (r.n+m) f)) l) :
  if Region.wanted z4 (yielded y9 z5.tmps)=true then Oper.wp g z4 z5 b K ys else ya:=by
 have G:Region.wanted z4 (yielded y9 z5.tmps)=true:=by simp[Region.wanted,O]
 rw[QV G];obtain⟨k,f,l,p,B,I,M⟩:=pW (P:=g) b t z4.type i z d h r D F H T C E S o w m c a A y q L Q J;unfold Oper.wp;simp[execOp,v,resolve,invoke,builtin,P,R,p,Result.andThen];exact N k f l B I M
theorem dB{P:Program}(d:P.underlying L=some (.slice M))(e:P.info? M=some N)(c:N.zero=some y0)(n a:Nat)(b:N.size=a)(f:N.bytes*n<=281474976710656)(g:n<=1073741824) :
  (Instr.makeSlice L (.int .i64 n) (.int .i64 n)).run P v=.ok (.slice (some ⟨v.heap.size,0,none⟩) n n) (v.alloc (.cells (madeCells y0.cells (n*a)) M)):=by
 have:=run_make (P:=P) v L M N y0 d e c .i64 .i64 n n (by omega) (TI _) (by have:=Int.ofNat_le.2 f;rw[Int.natCast_mul]at this;exact this) (by omega);simpa [b] using this
def iI(w:World)(x:Nat)(fs:Fs)(rep:Bool)(a b c:Value):Prop:=bi w x 80 fs [.bool rep,a,b,c]
def NN:Value:=.slice none 0 0
def jR(w:World)(x:Nat)(fs:Fs):Prop:=iI w x fs false NN NN NN
def lh(w:World)(x:Nat)(fs:Fs):Prop:=∃rep a b c,iI w x fs rep a b c
theorem jR.anyR{a:Fs}(h:jR b l a):lh b l a:=⟨_,_,_,_,h⟩
theorem iI.anyR{a:Fs}(h:iI b l a zt zb y5 y6):lh b l a:=⟨_,_,_,_,h⟩
theorem jR.kept{a:Fs}(h:jR b l a)(k:ab y b x)(c:l∉y):jR x l a:=bi.kept h k c
theorem lh.kept{d:Fs}(h:lh b l d)(k:ab y b x)(f:l∉y):lh x l d:=by
 obtain⟨r,a,e,c,h⟩:=h;exact⟨r,a,e,c,bi.kept h k f⟩
theorem lh.lt{d:Fs}(h:lh b l d):l<b.heap.size:=by
 obtain⟨r,a,e,c,h⟩:=h;exact bi.lt h
theorem iI.cells{a:Fs}(h:iI b l a zt zb y5 y6) :
  b.cell? ⟨l,9,none⟩=some (.bool zt)/\b.cell? ⟨l,10,none⟩=some zb/\b.cell? ⟨l,11,none⟩=some y5/\b.cell? ⟨l,12,none⟩=some y6:=by
 refine⟨?_,?_,?_,?_⟩ <;> (rw[aa h.1];rfl)
def Df(w:World)(x:Nat)(rep:Bool)(a b c:Value):World:=(((w.setCell ⟨x,9,none⟩ (.bool rep)).setCell ⟨x,10,none⟩ a).setCell ⟨x,11,none⟩ b).setCell ⟨x,12,none⟩ c
theorem iI.turn{f:Fs}(h:iI b l f zt zb y5 y6)(a:Bool)(e d c:Value):iI (Df b l a e d c) l f a e d c:=by
 refine⟨?_,h.2⟩;unfold Df;rw[ah (ah (ah (ah h.1 9 (.bool a)) 10 e) 11 d) 12 c];rfl
theorem Ft(h:ab y b x)(d:l∈y∨b.heap.size<=l)(e:Bool)(a f c:Value):ab y b (Df x l e a f c) :=
 (((h.setCell d _).setCell d _).setCell d _).setCell d _
theorem NM:Calls prog 27 #[] k fun e a=>e=.returned (.pointer (some ⟨k.heap.size,0,none⟩))/\jR a k.heap.size []/\ab [] k a:=by
 go_enter func27,ntmps27;go_wp2;go_ret;exact⟨rfl,⟨QR _ _,by simp⟩,(ab.refl _ _).alloc _⟩
theorem vV(g:Fs)(d:World)(h:lh d w g) :
  Calls prog 33 #[.pointer (some ⟨w,0,none⟩)] d fun e i=>e=.returned (.tuple #[])/\jR i w g/\ab [w] d i:=by
 obtain⟨n,a,b,c,h⟩:=h;obtain⟨o,j,m,k⟩:=h.cells;have p:=bi.free h;have f:=hI (h.turn false (.slice none 0 0) (.slice none 0 0) (.slice none 0 0));unfold Df at f;have l:=bi.lt h;go_enter func33,ntmps33;go_wp2;go_end0;exact⟨rfl,f.out,Ft (ab.refl _ _) (Q0 (by simp)) _ _ _ _⟩
theorem MR(d:Fs)(j:World)(h:lh j w d)(s:n.size<=1073741824)(u:H.size<=4294967296) :
  Calls prog 14 #[.pointer (some ⟨w,0,none⟩),.string n,.string H] j fun e o=>e=.returned (.int .i64 (fc d n H).1)/\lh o w (fc d n H).2/\((fc d n H).1=0->jR o w (fc d n H).2)/\ab [w] j o:=by
 obtain⟨g,a,b,c,h⟩:=h;have q:=GC w 80 n H d [.bool g,a,b,c] j h s u;have f:=hI q;clear q;generalize fc d n H=t at *;obtain⟨x,m⟩:=t;simp only at f ⊢
 cases v:(x==0)
 ·go_enter func14,ntmps14
  go_wp2_with fail;refine QT f.out ?_;rintro e r ⟨rfl,k,i⟩;go_wp2;go_ret;exact⟨rfl,⟨g,a,b,c,k⟩,fun e=>by subst e;simp at v,i⟩
 ·go_enter func14,ntmps14
  go_wp2_with fail;refine QT f.out ?_;rintro e r ⟨rfl,k,i⟩;go_wp2_with fail;refine(vV w m r ⟨g,a,b,c,k⟩).mono ?_;rintro e y ⟨rfl,p,l⟩;go_wp2;go_ret;exact⟨rfl,p.anyR,fun _=>p,i.trans l⟩
def dJ(f:Nat->Int):Nat->Int
 | 0=>0
 | n+1=>if(dJ f n==0)=true then f n else dJ f n
theorem oq(b:dJ y2 l=0)(h:(y2 l==0)=false)(c:l<S):dJ y2 S=y2 l:=by
 induction S with
 | zero=>omega
 | succ S a =>
  rw[dJ]
  by_cases e:l=S
  ·subst e;rw[b];rfl
  ·rw[a (by omega),QS (by rw[h];simp)]
def Dv(fs:Fs)(i:Nat):Int:=if(cJ (aE fs i) (ak fs i)==0)=false then cJ (aE fs i) (ak fs i) else if 0<=bF (fs.take i) (aE fs i) then 4 else 0
def dy(fs:Fs):Int:=if 4<fs.length then 1 else dJ (Dv fs) fs.length
def jt(fs0 fs:Fs):Fs:=if dy fs=0 then fs else fs0
theorem pL{fs0 a:Fs}(h:dy a=y8)(b:y8≠0):jt fs0 a=fs0:=by unfold jt;rw[QS (by rw[h];exact b)]
theorem yM{fs0 a:Fs}(h:dy a=0):jt fs0 a=a:=by unfold jt;rw[QV h]
theorem Pg(h:dJ y2 l=0):∀i,i<l->y2 i=0:=by
 induction l with
 | zero=>intro i b;omega
 | succ l c =>
  rw[dJ]at h
  split at h
  ·next a =>
   intro i b
   by_cases e:i=l
   ·rw[e];exact h
   ·exact c (TQ a) i (by omega)
  ·next a=>rw[h]at a;exact absurd rfl a
theorem NK{a:Fs}(h:dy a=0):a.length<=4/\∀j,j<a.length->(ak a j).size<=1024:=by
 unfold dy at h
 split at h
 ·cases h
 ·refine⟨by omega,fun j c=>?_⟩
  have b:=Pg h j c;unfold Dv at b
  split at b
  ·next e=>rw[b]at e;cases e
  ·next e =>
   unfold cJ at e
   split at e
   ·exact absurd rfl e
   ·split at e
    ·exact absurd rfl e
    ·omega
def kZ(fs:Fs):Prop:=∀j,(aE fs j).size<=1073741824/\(ak fs j).size<=1073741824
theorem zX:(prog.info? 68).map (fun i=>(i.zero,i.size,i.bytes))=some (some (.agg #[.string ⟨#[]⟩,.string ⟨#[]⟩]),2,32):=by kernel_rfl
def Ot(f:ByteArray×ByteArray):List Value:=[.string f.1,.string f.2]
def qJ(fs:Fs):List Value:=fs.flatMap Ot
def cr(fs:Fs):dN:=⟨68,2,fs.length,qJ fs⟩
theorem vm(a:Fs):(qJ a).length=a.length*2:=by
 induction a with
 | nil=>rfl
 | cons t L b=>rw[qJ,RH,QZ,show L.flatMap Ot=qJ L from rfl,b];simp[Ot];omega
theorem v8(b:Fs)(j:Nat)(h:j<b.length):(qJ b)[j*2]?=some (.string (aE b j))/\(qJ b)[j*2+1]?=some (.string (ak b j)):=by
 induction b generalizing j with
 | nil=>simp at h
 | cons a L d =>
  have e:qJ (a :: L)=.string a.1 :: .string a.2 :: qJ L:=rfl
  cases j with
  | zero=>exact⟨rfl,rfl⟩
  | succ j =>
   obtain⟨f,c⟩:=d j (by simpa using h);rw[e,show(j+1)*2=j*2+1+1 by omega];exact⟨f,c⟩
theorem Gi(b:Fs)(k:Nat)(n d:ByteArray)(h:k<b.length):((qJ b).set (k*2) (.string n)).set (k*2+1) (.string d)=qJ (b.set k (n,d)):=by
 induction b generalizing k with
 | nil=>simp at h
 | cons a L c =>
  have e:∀x:ByteArray×ByteArray,qJ (x :: L)=.string x.1 :: .string x.2 :: qJ L:=fun _=>rfl
  cases k with
  | zero=>rfl
  | succ k =>
   rw[SA,show(k+1)*2=k*2+1+1 by omega,e]
   show _=Value.string a.1 :: Value.string a.2 :: qJ (L.set k (n,d))
   rw[<-c k (by simpa using h)];rfl
theorem wW(a:Fs)(t:ByteArray×ByteArray):(⟨(cr a).e,(cr a).size,(cr a).n+1,(cr a).xs++Ot t⟩:dN)=cr (a++[t]):=by
 simp[cr,qJ]
theorem Gh(a:Fs):∀u∈qJ a,u.oneCell'=true:=by
 intro u b;obtain⟨x,-,h⟩:=TR.1 b;unfold Ot at h;simp only[Ri,RN,SO]at h
 rcases h with rfl | rfl <;> rfl
structure It where
 B:List Nat
 P:World->Prop
 lt:∀w,P w->∀b,b∈B->b<w.heap.size
 ok:∀S w w',P w->ab S w w'->(∀b,b∈B->b∉S)->P w'
def fk(I:Nat×Nat->It)(k:Nat×Nat)(it:It):Nat×Nat->It:=fun q=>if q=k then it else I q
theorem bJ(I:Nat×Nat->It)(k:Nat×Nat)(a:It):fk I k a k=a:=by unfold fk;rw[QV rfl]
theorem aq(I:Nat×Nat->It)(a:It)(h:y3≠y7):fk I y7 a y3=I y3:=by unfold fk;rw[QS h]
theorem bn(h:l≠yd):((l,S):Nat×Nat)≠(yd,yg):=fun e=>h (by cases e;rfl)
theorem rB(h:S≠yg):((l,S):Nat×Nat)≠(yd,yg):=fun e=>h (by cases e;rfl)
structure nI(w:World)(I:Nat×Nat->It):Prop where
 all:∀k,(I k).P w
 far:∀k k',k≠k'->∀b,b∈(I k).B->b∉(I k').B
theorem nI.Va{I:Nat×Nat->It}(h:nI b I)(k:ab [] b x):nI x I :=
 ⟨fun q=>(I q).ok [] b x (h.all q) k (fun _ _ a=>by cases a),h.far⟩
theorem nI.put{I:Nat×Nat->It}(h:nI b I)(k:Nat×Nat)(f:It)(K:ab (I k).B b x)(n:f.P x)(m:∀a,a∈f.B->a∈(I k).B∨b.heap.size<=a):nI x (fk I k f):=by
 refine⟨fun q=>?_,fun q g j a c d=>?_⟩
 ·by_cases e:q=k
  ·subst e;rw[bJ];exact n
  ·rw[aq I f e]
   exact(I q).ok _ b x (h.all q) K (fun a c=>h.far q k e a c)
 ·by_cases e:q=k
  ·subst e
   rw[bJ]at c;rw[aq I f (Ne.symm j)]at d
   rcases m a c with i | i
   ·exact h.far q g j a i d
   ·have:=(I g).lt b (h.all g) a d;omega
  ·rw[aq I f e]at c
   by_cases l:g=k
   ·subst l
    rw[bJ]at d
    rcases m a d with i | i
    ·exact h.far q g j a c i
    ·have:=(I q).lt b (h.all q) a c;omega
   ·rw[aq I f l]at d
    exact h.far q g j a c d
theorem nI.put2{I:Nat×Nat->It}(h:nI b I)(d e:Nat×Nat)(A:d≠e)(l k:It)(K:ab ((I d).B++(I e).B) b x)(E:l.P x)(z:k.P x)(F:∀a,a∈l.B->a∈(I d).B∨b.heap.size<=a)(C:∀a,a∈k.B->a∈(I e).B∨b.heap.size<=a)(y:∀a,a∈l.B->a∉k.B):nI x (fk (fk I d l) e k):=by
 have f:∀q,q≠d->q≠e->∀a,a∈(I q).B->a∉l.B/\a∉k.B:=fun q g c a o=>by
  have:=(I q).lt b (h.all q) a o;refine⟨fun v=>?_,fun v=>?_⟩
  ·rcases F a v with p | p
   ·exact h.far q d g a o p
   ·omega
  ·rcases C a v with p | p
   ·exact h.far q e c a o p
   ·omega
 have t:fk (fk I d l) e k d=l:=by rw[aq _ _ A,bJ]
 have u:fk (fk I d l) e k e=k:=bJ _ _ _;have s:∀q,q≠d->q≠e->fk (fk I d l) e k q=I q:=fun q g c=>by rw[aq _ _ c,aq _ _ g]
 refine⟨fun q=>?_,fun q j r a g c=>?_⟩
 ·by_cases m:q=d
  ·subst m;rw[t];exact E
  ·by_cases i:q=e
   ·subst i;rw[u];exact z
   ·rw[s q m i]
    exact(I q).ok _ b x (h.all q) K (fun a o D=>(Rq.1 D).elim (h.far q d m a o) (h.far q e i a o))
 ·by_cases m:q=d
  ·subst m
   rw[t]at g
   by_cases i:j=e
   ·subst i;rw[u]at c;exact y a g c
   ·rw[s j (Ne.symm r) i]at c;exact(f j (Ne.symm r) i a c).1 g
  ·by_cases i:q=e
   ·subst i
    rw[u]at g
    by_cases n:j=d
    ·subst n;rw[t]at c;exact y a c g
    ·rw[s j n (Ne.symm r)]at c;exact(f j n (Ne.symm r) a c).2 g
   ·rw[s q m i]at g
    by_cases n:j=d
    ·subst n;rw[t]at c;exact(f q m i a g).1 c
    ·by_cases w:j=e
     ·subst w;rw[u]at c;exact(f q m i a g).2 c
     ·rw[s j n w]at c;exact h.far q j r a g c
theorem nI.off{I:Nat×Nat->It}(h:nI b I)(a:y7≠y3)(c:l∈(I y7).B):l∉(I y3).B:=h.far y7 y3 a l c
structure Tk where
 s:ByteArray
 rule:Int
 file:ByteArray
 line:Int
 col:Int
def AT(t:Tk):List Value:=[.string t.s,.int .i64 t.rule,.string t.file,.int .i64 t.line,.int .i64 t.col]
def PH(L:List Tk):List Value:=L.flatMap AT
def ir(L:List Tk):dN:=⟨138,5,L.length,PH L⟩
theorem Px(L:List Tk)(j:Nat)(t:Tk)(h:L[j]?=some t)(c:Nat)(d:c<5):(PH L)[j*5+c]?=(AT t)[c]?:=by
 induction L generalizing j with
 | nil=>cases h
 | cons a L b =>
  have e:PH (a :: L)=AT a++PH L:=rfl
  cases j with
  | zero =>
   simp at h;subst h;rw[e,Q6 (by simp[AT];omega)];simp
  | succ j =>
   rw[e,Q4 (by simp[AT];omega),show(j+1)*5+c-(AT a).length=j*5+c by simp[AT];omega];exact b j (by simpa using h)
theorem yY(L:List Tk)(t:Tk):(⟨(ir L).e,(ir L).size,(ir L).n+1,(ir L).xs++AT t⟩:dN)=ir (L++[t]):=by
 simp[ir,PH]
def di(d:ByteArray):Nat->Nat
 | 0=>0
 | i+1=>if cO (aF d i)=true then i+1 else di d i
def md(nm d:ByteArray)(s:ByteArray)(r:Int)(k:Nat):Tk:=⟨s,r,nm,aP d k,bm d k⟩
def je(nm d:ByteArray)(a z:Nat)(L:List Tk):List Tk:=if a=z then L else L++[md nm d (d.extract a z) 0 a]
def jd(nm d:ByteArray):Nat->List Tk
 | 0=>[]
 | i+1=>if cO (aF d i)=true then je nm d (di d i) i (jd nm d i) else jd nm d i
def qG(n:Int):Bool:=!fn n && !cO n
def jF(d:ByteArray):Option Nat:=(List.range d.size).find? (fun i=>qG (aF d i))
def ij(nm d:ByteArray):List Tk:=match jF d with
 | some i=>jd nm d i++[md nm d ⟨#[]⟩ 1 i]
 | none=>je nm d (di d d.size) d.size (jd nm d d.size)++[md nm d ⟨#[]⟩ 0 d.size]
theorem og:di f w<=w:=by
 induction w with
 | zero=>exact QQ _
 | succ w a=>rw[di];split <;> omega
theorem uu(L:List Tk):(je d f T w L).length<=L.length+1:=by
 unfold je;split <;> simp
theorem xt:(jd d f w).length<=w:=by
 induction w with
 | zero=>exact QQ _
 | succ w a =>
  rw[jd]
  split
  ·have:=uu d f (di f w) w (jd d f w);omega
  ·omega
theorem zs:(ij n H).length<=H.size+2:=by
 unfold ij
 split
 ·next i h =>
  have:=Q9.1 (Ry h);have:=xt n H i;simp;omega
 ·have:=uu n H (di H H.size) H.size (jd n H H.size)
  have:=xt n H H.size;simp;omega
def rN(s u:ByteArray)(i:Nat):Bool:=((s.extract i (i+u.size)).toList==u.toList)
def ii(s u:ByteArray):Bool:=(List.range (s.size+1)).any (fun i=>decide (i+u.size<=s.size)&&rN s u i)
def Du(t:ByteArray)(l:List UInt8):Bool:=(t.toList==l)
def bQ:Bool->List Tk->List Tk
 | _,[]=>[]
 | false,t :: r=>if Du t.s [36,40]=true then bQ true r else t :: bQ false r
 | true,t :: r =>
  if(t.rule==0)=false then t :: bQ true r
  else if Du t.s [36,41]=true then bQ false r
  else if Du t.s []=true then⟨⟨#[]⟩,3,t.file,t.line,t.col⟩ :: bQ true r
  else if(ii t.s ⟨#[36,40]⟩||ii t.s ⟨#[36,41]⟩)=true then [⟨⟨#[]⟩,2,t.file,t.line,t.col⟩]
  else bQ true r
theorem KE(b:Bool)(L:List Tk):(bQ b L).length<=L.length:=by
 induction L generalizing b with
 | nil=>cases b <;> simp[bQ]
 | cons t L a =>
  have d:=a true;have c:=a false
  cases b
  ·rw[bQ];split <;> simp <;> omega
  ·rw[bQ]
   repeat' split
   all_goals (simp;try omega)
def kQ(w:World)(ao:Option Addr)(fs:Fs):Prop:=∀k,k<fs.length->∃g o,ao=some ⟨g,o,none⟩/\g<w.heap.size/\w.cell? ⟨g,o+k*2,none⟩=some (.string (aE fs k))/\w.cell? ⟨g,o+k*2+1,none⟩=some (.string (ak fs k))
theorem kQ.kept{a:Fs}(h:kQ b y4 a)(k:ab y b x)(m:∀c,y4=some c->c.block∉y):kQ x y4 a:=by
 intro j f;obtain⟨g,o,e,d,n,l⟩:=h j f;have q:∀i,x.cell? ⟨g,i,none⟩=b.cell? ⟨g,i,none⟩:=fun i=>Q5 (k.block g d (m _ e))
 exact⟨g,o,e,QW d k.size,by rw[q];exact n,by rw[q];exact l⟩
theorem Ns(a:Fs)(k:Nat)(h:k<a.length):a.take k++[(aE a k,ak a k)]=a.take (k+1):=by
 rw[Tc,QO h];unfold aE ak;rw[QP,QO h];rfl
def De(w:World)(v:Nat)(fs:Fs):World:=((((((((w.setCell ⟨v,0,none⟩ (.string (aE fs 0))).setCell ⟨v,1,none⟩ (.string (ak fs 0))).setCell ⟨v,2,none⟩ (.string (aE fs 1))).setCell ⟨v,3,none⟩ (.string (ak fs 1))).setCell ⟨v,4,none⟩ (.string (aE fs 2))).setCell ⟨v,5,none⟩ (.string (ak fs 2))).setCell ⟨v,6,none⟩ (.string (aE fs 3))).setCell ⟨v,7,none⟩ (.string (ak fs 3))).setCell ⟨v,8,none⟩ (.int .i64 fs.length)
theorem MA(c a:Fs)(b:List Value):(((((((((oV c++b).set 0 (.string (aE a 0))).set 1 (.string (ak a 0))).set 2 (.string (aE a 1))).set 3 (.string (ak a 1))).set 4 (.string (aE a 2))).set 5 (.string (ak a 2))).set 6 (.string (aE a 3))).set 7 (.string (ak a 3))).set 8 (.int .i64 a.length)=oV a++b:=rfl
theorem bi.over{d a:Fs}(h:bi b l S d D)(c:a.length<=4):bi (De b l a) l S a D:=by
 refine⟨?_,c⟩;unfold De;rw[ah (ah (ah (ah (ah (ah (ah (ah (ah h.1 0 _) 1 _) 2 _) 3 _) 4 _) 5 _) 6 _) 7 _) 8 _];simp only[Rt,MA]
theorem Fr(h:ab y b x)(a:l∈y∨b.heap.size<=l)(c:Fs):ab y b (De x l c) :=
 ((((((((h.setCell a _).setCell a _).setCell a _).setCell a _).setCell a _).setCell a _).setCell a _).setCell a _).setCell a _
theorem bi.nine{a:Fs}(h:bi b l S a D) :
  b.cell? ⟨l,0,none⟩=some (.string (aE a 0))/\b.cell? ⟨l,1,none⟩=some (.string (ak a 0))/\b.cell? ⟨l,2,none⟩=some (.string (aE a 1))/\b.cell? ⟨l,3,none⟩=some (.string (ak a 1))/\b.cell? ⟨l,4,none⟩=some (.string (aE a 2))/\b.cell? ⟨l,5,none⟩=some (.string (ak a 2))/\b.cell? ⟨l,6,none⟩=some (.string (aE a 3))/\b.cell? ⟨l,7,none⟩=some (.string (ak a 3))/\b.cell? ⟨l,8,none⟩=some (.int .i64 a.length):=by
 refine⟨?_,?_,?_,?_,?_,?_,?_,?_,?_⟩ <;> (rw[aa h.1];rfl)
theorem IG(c a:Fs)(d:List Value)(V:Option Addr)(af:Nat)(b:World)(h:bi b T w c d)(hS:kQ b V a)(G:kZ a) :
  Calls prog 48 #[.pointer (some ⟨T,0,none⟩),.slice V a.length af] b fun e l=>e=.returned (.int .i64 (dy a))/\bi l T w (jt c a) d/\ab [T] b l:=by
 have K:Hid (bi b T w c d):=h
 by_cases h4:4<a.length
 ·have A:Hid (dy a=1):=by show _=_;unfold dy;rw[QV h4]
  have O:=hI (pL (fs0:=c) A.out (by decide));rw[A.out];have ag:(4:Int)<(a.length:Int):=by omega
  clear h;go_enter func48,ntmps48;go_wp2;go_ret;exact⟨rfl,by rw[O.out];exact K.out,ab.refl _ _⟩
 ·have A:Hid (dy a=dJ (Dv a) a.length):=by show _=_;unfold dy;rw[QS h4]
  obtain⟨r,J⟩:∃r,Hid (dy a=r):=⟨_,rfl⟩
  rw[J.out]at A ⊢;have ag:¬(4:Int)<(a.length:Int):=by omega
  have HS:Hid (kQ b V a):=hS;have C:=hI G;have ax:T<b.heap.size:=h.lt;obtain⟨W,Z⟩:∃W,Hid (b.alloc (.cells #[.string ⟨#[]⟩,.string ⟨#[]⟩,.string ⟨#[]⟩,.string ⟨#[]⟩,.string ⟨#[]⟩,.string ⟨#[]⟩,.string ⟨#[]⟩,.string ⟨#[]⟩,.int .i64 0] 73)=W):=⟨_,rfl⟩
  have N:Hid (ab [] b W):=by show ab _ _ _;rw[<-Z.out];exact(ab.refl [] _).alloc _
  have ac:Hid (bi W b.heap.size 73 (a.take 0) []):=by show bi _ _ _ _ _;rw[<-Z.out];exact⟨QR _ _,by simp⟩
  clear h hS G;go_enter func48,ntmps48
  go_upto_region 4 with fail
  rw[Z.out];go_wp2
  go_loopg [6] a.length (fun g iv wr=>∃k:Nat,k<=a.length/\g=a.length-k/\iv=.int .i64 k/\Hid (dJ (Dv a) k=0)/\Hid (bi wr b.heap.size 73 (a.take k) [])/\Hid (ab [] b wr))
  case atStart=>exact⟨0,by omega,rfl,rfl,rfl,ac,N⟩
  case round =>
   obtain⟨k,hk,hg,rfl,X,u,v⟩:=hrel
   by_cases t:k<a.length
   ·have ar:(k:Int)<(a.length:Int):=by omega
    obtain⟨B,o0,rfl,s,c0,c1⟩:=(kQ.kept HS.out v.out (by simp)) k t;have HC:Hid (∀l,ab [] wr l->l.cell? ⟨B,o0+k*2,none⟩=some (.string (aE a k))/\l.cell? ⟨B,o0+k*2+1,none⟩=some (.string (ak a k))/\B<l.heap.size):=fun l U=>⟨by rw[Q5 (U.block B s (by simp))];exact c0,by rw[Q5 (U.block B s (by simp))];exact c1,QW s U.size⟩
    have I:Hid (∀f,Calls prog 49 #[.string (aE a k),.string (ak a k)] f fun e l=>e=.returned (.int .i64 (cJ (aE a k) (ak a k)))/\l=f):=fun f=>nL _ _ f (C.out k).1 (by have:=(C.out k).2;omega)
    have y:Hid (∀f,bi f b.heap.size 73 (a.take k) []->Calls prog 50 #[.pointer (some ⟨b.heap.size,0,none⟩),.string (aE a k)] f fun e l=>e=.returned (.int .i64 (bF (a.take k) (aE a k)))/\l=f):=fun f R=>lM _ _ _ _ _ f R
    have hl:(a.take k).length=k:=by rw[RO];omega
    have an:Hid (∀f,bi f b.heap.size 73 (a.take k) []->Calls prog 51 #[.pointer (some ⟨b.heap.size,0,none⟩),.agg #[.string (aE a k),.string (ak a k)]] f fun e l=>e=.returned (.tuple #[])/\bi l b.heap.size 73 (a.take (k+1)) []/\ab [b.heap.size] f l):=fun f R=>by
     rw[<-Ns a k t];exact FV _ _ _ _ _ _ f R (by rw[hl];omega)
    have n:Hid (Dv a k=if(cJ (aE a k) (ak a k)==0)=false then cJ (aE a k) (ak a k) else if 0<=bF (a.take k) (aE a k) then 4 else 0):=rfl;have E:Hid ((Dv a k==0)=false->r=Dv a k):=fun q=>by rw[A.out];exact oq X.out q t
    have ai:Hid (Dv a k=0->dJ (Dv a) (k+1)=0):=fun q=>by rw[dJ,X.out];exact q
    clear hl;generalize aE a k=nm at *;generalize ak a k=dt at *;obtain⟨F,M⟩:∃F,Hid (cJ nm dt=F):=⟨_,rfl⟩
    rw[M.out]at I n;obtain⟨L,ad⟩:∃L,Hid (bF (a.take k) nm=L):=⟨_,rfl⟩
    rw[ad.out]at y n
    go_upto_region 7 with fail
    go_region_with (go_at_call 49;refine(I.out _).mono ?_;rintro e z ⟨rfl,al⟩)
    all_goals
     subst al;obtain⟨z,H9⟩:∃z,Hid (wr.drew=z):=⟨_,rfl⟩
     rw[H9.out];have j:Hid (ab [] wr z):=by show ab _ _ _;rw[<-H9.out];exact(ab.refl [] wr).drew
     clear c0 c1 s
     cases i:(F==0)
     ·rw[i,QV rfl]at n
      have o:=hI (E.out (by rw[n.out];exact i));rw[n.out]at o;have Y:(F != 0)=true:=by unfold bne;rw[i];rfl
      go_wp2;go_ret;exact⟨QM o.out.symm,by rw[pL (J.out.trans o.out) (fun q=>by rw[q]at i;cases i)];exact bi.kept K.out (v.out.trans j.out) (by simp),(v.out.trans j.out).mono (by simp)⟩
     ·rw[i,QS (by simp)]at n
      have Y:(F != 0)=false:=by unfold bne;rw[i];rfl
      obtain⟨d0,d1,d2⟩:=HC.out z j.out;have x:Hid (bi z b.heap.size 73 (a.take k) []):=bi.kept u.out j.out (by simp)
      by_cases D:0<=L
      ·rw[QV D]at n
       have o:=hI (E.out (by rw[n.out];rfl));rw[n.out]at o;go_wp2_with (go_at_call 50;refine(y.out _ x.out).mono ?_;rintro e w8 ⟨rfl,m⟩;rw[m];clear m);go_ret;exact⟨QM o.out.symm,by rw[pL (J.out.trans o.out) (by decide)];exact bi.kept K.out (v.out.trans j.out) (by simp),(v.out.trans j.out).mono (by simp)⟩
      ·rw[QS D]at n
       have HM:=hI (ai.out n.out)
       go_upto_region 12 with (go_at_call 50;refine(y.out _ x.out).mono ?_;rintro e w8 ⟨rfl,m⟩;rw[m];clear m)
       go_wp2_with (go_at_call 51;refine(an.out _ x.out).mono ?_;rintro e w8 ⟨rfl,P,Q⟩)
       go_roundg (a.length-(k+1))
       case measure=>omega
       case rel=>exact⟨k+1,by omega,rfl,by go_num,HM,P,((v.out.trans j.out).mono (S':=[b.heap.size]) (by simp)).trans Q |>.mono (fun q hq t=>by simp at hq;omega)⟩
   ·have e:k=a.length:=by omega
    subst e;have o:Hid (r=0):=by show _=_;rw[A.out];exact X.out
    have aT:¬(a.length:Int)<(a.length:Int):=by omega
    rw[RI]at u;obtain⟨q0,q1,q2,q3,q4,q5,q6,q7,q8⟩:=bi.nine u.out;have az:=bi.lt u.out;have p:Hid (bi wr T w c d):=bi.kept K.out v.out (by simp);obtain⟨p0,p1,p2,p3,p4,p5,p6,p7,p8⟩:=bi.nine p.out;have ap:=bi.free p.out;have aS:=bi.lt p.out;have H:Hid (bi (De wr T a) T w a d):=bi.over p.out (by omega);unfold De at H;have S:=hI (yM (fs0:=c) (J.out.trans o.out));go_wp2;go_ret;exact⟨QM o.out.symm,by rw[S.out];exact H.out,Fr (v.out.mono (by simp)) (Q0 (by simp)) _⟩
def Qy(w':World)(x:Nat)(fs0 fs:Fs)(rep:Bool)(a b c:Value):Prop:=(dy fs=0->jR w' x (jt fs0 fs))/\(dy fs≠0->iI w' x (jt fs0 fs) rep a b c)
theorem J5(d g:Fs)(f:Bool)(a b c:Value)(n:Option Addr)(l:Nat)(j:World)(h:iI j w d f a b c)(x:kQ j n g)(p:kZ g) :
  Calls prog 30 #[.pointer (some ⟨w,0,none⟩),.slice n g.length l] j fun e s=>e=.returned (.int .i64 (dy g))/\Qy s w d g f a b c/\ab [w] j s:=by
 unfold Qy;have k:=hI (IG w 80 d g [.bool f,a,b,c] n l j h x p);generalize dy g=v at *;generalize jt d g=r at *
 cases o:(v==0)
 ·go_enter func30,ntmps30
  go_wp2_with (go_at_call 48;refine QT k.out ?_;rintro e t ⟨rfl,m,i⟩);go_ret;exact⟨rfl,⟨(fun e=>by rw[e]at o;cases o),fun _=>m⟩,i⟩
 ·go_enter func30,ntmps30
  go_upto_region 3 with (go_at_call 48;refine QT k.out ?_;rintro e t ⟨rfl,m,i⟩)
  go_wp2_with (go_at_call 33;refine(vV w r t ⟨f,a,b,c,m⟩).mono ?_;rintro e y ⟨rfl,u,q⟩);go_ret;exact⟨rfl,⟨fun _=>u,fun e=>absurd (TQ o) e⟩,i.trans q⟩
theorem Oh(f:Fs)(d:Bool)(a b c:Value)(i:World)(h:iI i w f d a b c)(m:n.size<=1073741824)(p:H.size<=4294967296)(j:(fc f n H).1≠0) :
  Calls prog 14 #[.pointer (some ⟨w,0,none⟩),.string n,.string H] i fun e l=>e=.returned (.int .i64 (fc f n H).1)/\iI l w (fc f n H).2 d a b c/\ab [w] i l:=by
 have g:=hI (GC w 80 n H f [.bool d,a,b,c] i h m p);generalize fc f n H=o at *;obtain⟨r,s⟩:=o;simp only at g j ⊢;have t:(r==0)=false:=Rg.2 j;clear j;go_enter func14,ntmps14;go_wp2_with (go_at_call 32;refine QT g.out ?_;rintro e u ⟨rfl,q,k⟩);go_ret;exact⟨rfl,q,k⟩
theorem Dl(i:Fs)(n:ByteArray)(f:Bool)(a b c:Value)(d:World)(h:iI d w i f a b c)(D:bF i n<0) :
  Calls prog 36 #[.pointer (some ⟨w,0,none⟩),.string n] d fun e m=>e=.returned (.tuple #[.agg #[.int .i64 0,.string ⟨#[]⟩,.int .i64 0,.int .i64 0],.int .i64 5])/\iI m w i f a b c/\ab [w] d m:=by
 have E:=bi.lt h;obtain⟨W,o⟩:∃W,Hid (d.alloc (.cells #[.int .i64 0,.string ⟨#[]⟩,.int .i64 0,.int .i64 0] 87)=W):=⟨_,rfl⟩
 have q:Hid (ab [] d W):=by show ab _ _ _;rw[<-o.out];exact(ab.refl [] _).alloc _
 have g:W.heap[d.heap.size]?=some (.cells #[.int .i64 0,.string ⟨#[]⟩,.int .i64 0,.int .i64 0] 87 (0,0)):=by rw[<-o.out];exact QR _ _
 have u:iI W w i f a b c:=bi.kept h q.out (by simp);obtain⟨p,k⟩:∃p,Hid (bF i n=p):=⟨_,rfl⟩
 rw[k.out]at D
 have r:Hid (Calls prog 50 #[.pointer (some ⟨w,0,none⟩),.string n] W fun e m=>e=.returned (.int .i64 p)/\m=W):=by
  show Calls _ _ _ _ _
  rw[<-k.out];exact lM w _ i _ n W u
 have B:W.cell? ⟨d.heap.size,0,none⟩=some (.int .i64 0):=by rw[aa g];rfl
 have G:W.cell? ⟨d.heap.size,1,none⟩=some (.string ⟨#[]⟩):=by rw[aa g];rfl
 have F:W.cell? ⟨d.heap.size,2,none⟩=some (.int .i64 0):=by rw[aa g];rfl
 have A:W.cell? ⟨d.heap.size,3,none⟩=some (.int .i64 0):=by rw[aa g];rfl
 have H:=am g;have z:=ae g;have j:Hid (∀y t x s,ab [] d ((((W.setCell ⟨d.heap.size,0,none⟩ y).setCell ⟨d.heap.size,1,none⟩ t).setCell ⟨d.heap.size,2,none⟩ x).setCell ⟨d.heap.size,3,none⟩ s)):=fun y t x s=>(((q.out.setCell (QU (QQ _)) _).setCell (QU (QQ _)) _).setCell (QU (QQ _)) _).setCell (QU (QQ _)) _
 have C:Hid (iI d w i f a b c):=h;clear h u g q;go_enter func36,ntmps36
 go_upto_region 1 with fail
 rw[o.out];go_wp2_with (go_at_call 50;refine QT r.out ?_;rintro e I ⟨rfl,l⟩;rw[l];clear l);exact QX (v:=.tuple #[.agg #[.int .i64 0,.string ⟨#[]⟩,.int .i64 0,.int .i64 0],.int .i64 5]) (by simp[results,results36,go_sem,B,G,F,A]) rfl ⟨rfl,bi.kept C.out (j.out _ _ _ _) (by simp),(j.out _ _ _ _).mono (by simp)⟩
def qA(c:Int):Prop:=-9223372036854775808<=c/\c<=9223372036854775807
def eG(c:Int)(n:Nat):Nat:=((if c<0 then -(c+1) else c).tmod n).toNat
theorem fY(b:1<=w):eG i w<w:=by
 unfold eG
 split
 ·have a:0<=(-(i+1)).tmod w/\(-(i+1)).tmod w<w:=⟨Us _ (by omega),T0 _ (by omega)⟩
  omega
 ·have a:0<=i.tmod w/\i.tmod w<w:=⟨Us _ (by omega),T0 _ (by omega)⟩
  omega
theorem eQ(g:qA i)(q:1<=w/\w<=4294967296) :
  Calls prog 12 #[.int .i64 i,.int .i64 w] k fun e o=>e=.returned (.int .i64 (eG i w:Nat))/\o=k:=by
 obtain⟨l,n⟩:=g;have h:(1:Int)<=(w:Int):=by omega
 have j:(w:Int)<=4294967296:=by omega
 have m:((w:Int)==0)=false:=Rg.2 (by omega)
 by_cases f:i<0
 ·have a:0<=(-(i+1)).tmod w/\(-(i+1)).tmod w<w:=⟨Us _ (by omega),T0 _ (by omega)⟩
  have d:=hI a;have c:Hid (eG i w=((-(i+1)).tmod w).toNat):=by show _=_;unfold eG;rw[QV f]
  clear a;go_enter func12,ntmps12;go_wp2
  all_goals go_ret
  all_goals
   have a:=d.out;refine⟨QM ?_,rfl⟩;rw[c.out]
   first | (simp only[Int.neg_tmod]at *;omega) | (rw[Uv a.1])
 ·have a:0<=i.tmod w/\i.tmod w<w:=⟨Us _ (by omega),T0 _ (by omega)⟩
  have b:i.tmod w=i % w:=Int.tmod_eq_emod_of_nonneg (by omega);have d:=hI a;have p:=hI b;have c:Hid (eG i w=(i.tmod w).toNat):=by show _=_;unfold eG;rw[QS f]
  clear a b;go_enter func12,ntmps12;go_wp2
  all_goals go_ret
  all_goals
   have a:=d.out;have b:=p.out;refine⟨QM ?_,rfl⟩;rw[c.out]
   first | (rw[Uv a.1];done) | (rw[Uv a.1,b])
theorem nB(d:Option Addr)(t r:Nat)(a:Fs)(w:World)(h:kQ w y1 a)(l:kQ w d a)(y:a.length<=4294967296) :
  Calls prog 26 #[.slice y1 a.length t,.slice d a.length r] w fun e p=>e=.returned (.bool true)/\∃n,p=w.drewN n:=by
 have o:Hid (kQ w y1 a):=h;have q:Hid (kQ w d a):=l;clear h l;go_enter func26,ntmps26;go_wp2
 go_loopg [5] a.length (fun g i wr=>∃k:Nat,k<=a.length/\g=a.length-k/\i=.int .i64 k/\Hid (∃n,wr=w.drewN n))
 case atStart=>exact⟨0,by omega,by omega,rfl,0,rfl⟩
 case round =>
  obtain⟨k,u,H,rfl,c⟩:=hrel;have j:Hid (ab [] w wr):=by show ab _ _ _;obtain⟨n,e⟩:=c.out;rw[e];exact(ab.refl [] w).drewN n
  by_cases b:k<a.length
  ·have s:(k:Int)<(a.length:Int):=by omega
   obtain⟨v,A,rfl,x,D,I⟩:=(kQ.kept o.out j.out (by simp)) k b;obtain⟨J,C,rfl,B,z,F⟩:=(kQ.kept q.out j.out (by simp)) k b;generalize aE a k=G at *;generalize ak a k=E at *
   go_upto_region 6 with fail
   go_quiet (fail)
   have f:Hid (∃n,wr.drewN nq=w.drewN n):=by show ∃_,_;obtain⟨n,e⟩:=c.out;exact⟨n+nq,by rw[e,Ue]⟩
   go_wp2
   go_roundg (a.length-(k+1))
   case measure=>omega
   case rel=>exact⟨k+1,by omega,rfl,by go_num,f⟩
  ·have m:¬(k:Int)<(a.length:Int):=by omega
   go_wp2;go_ret;exact⟨rfl,c.out⟩
theorem DO{P:Program}(n:Nat)(c:Option Addr)(r:dN)(a:Array Value)(t:TypeId)(y:P.underlying z7=some (.slice r.e))(m:(P.info? r.e).map (·.size)=some r.size)(l:v.heap[o]?=some (.cells a t (0,0)))(s:r.n=n)(x:r.xs.length=r.n*r.size)(B:c=none->r.xs=[])(p:∀d,c=some d->∀j g,r.xs[j]?=some g->v.cell? (d.add j)=some g)(A:a.size=r.n*r.size)(u:∀g∈r.xs,g.oneCell'=true) :
  ∃f,(Builtin.copy_ #[z7,L] M #[.slice (some ⟨o,0,none⟩) n T,.slice c n w]).run P v=.ok (goInt n) f/\f.heap[o]?=some (.cells r.xs.toArray t (0,0))/\ab [o] v f/\f.heap.size=v.heap.size:=by
 subst s;refine⟨v.setRow o r.xs.toArray,?_,setRow_heap v o _ _ t _ l,uI (ab.refl _ _) (Q0 (by simp)) _,by simp[World.setRow]⟩;have b:=run_storeCells_at P o 0 t r.xs 0 a v l (by simp;omega) u
 have z:(a.toList.take (0+0)++r.xs++a.toList.drop (0+0+r.xs.length))=r.xs:=by
  simp;omega
 rw[z]at b
 have h:(Builtin.firstCells r.size r.n (.slice c r.n w)).run P v=.ok r.xs.toArray v:=by
  cases c with
  | none=>rw[B rfl];exact run_firstCells_none v _ _ _ _
  | some d=>exact run_firstCells_some v r.size r.n d r.n w r.xs x (p d rfl)
 cases k:P.info? r.e with
 | none=>simp[k]at m
 | some i =>
  have q:i.size=r.size:=by simpa [k] using m
  simp[Builtin.copy_,UW y,Builtin.lenOf,sizeOf,typeInfo,k,q,h,b]
theorem kQ.cells{c:Fs}(h:kQ b y4 c):(y4=none->qJ c=[])/\∀i,y4=some i->∀j v,(qJ c)[j]?=some v->b.cell? (i.add j)=some v:=by
 refine⟨fun e=>?_,fun i e j v f=>?_⟩
 ·cases c with
  | nil=>rfl
  | cons a L=>obtain⟨g,o,d,-⟩:=h 0 (by simp);rw[e]at d;cases d
 ·have q:j<c.length*2:=by
   rw[<-vm];exact(Q7.1 f).1
  obtain⟨g,o,d,-,l,k⟩:=h (j / 2) (by omega);rw[e]at d
  cases d
  obtain⟨m,n⟩:=v8 c (j / 2) (by omega);have p:(⟨g,o,none⟩:Addr).add j=⟨g,o+j,none⟩:=by simp[Addr.add]
  rw[p]
  rcases UA j with e | e
  ·rw[show o+j / 2*2=o+j by omega]at l
   rw[show j / 2*2=j by omega]at m;rw[m]at f;rw[l,<-f]
  ·rw[show o+j / 2*2+1=o+j by omega]at k
   rw[show j / 2*2+1=j by omega]at n;rw[n]at f;rw[k,<-f]
theorem jE(a:Fs)(b:World)(s:kQ b y1 a)(C:a.length<=1073741824) :
  Calls prog 29 #[.slice y1 a.length w] b fun e u=>e=.returned (.slice (some ⟨b.heap.size,0,none⟩) a.length a.length)/\u.heap[b.heap.size]?=some (.cells (qJ a).toArray 68 (0,0))/\ab [] b u:=by
 obtain⟨z,r,k,g,q⟩:=Rd zX;have y:=fun b=>dB (P:=prog) b 33 68 z _ underlying33 r k a.length 2 g (by rw[q];omega) (by omega)
 obtain⟨d,c⟩:∃B,B=madeCells (Value.agg #[.string ⟨#[]⟩,.string ⟨#[]⟩]).cells (a.length*2):=⟨_,rfl⟩
 have x:d.size=a.length*2:=by rw[c,Ss]
 rw[<-c]at y;clear c;obtain⟨W,j⟩:∃W,Hid (b.alloc (.cells d 68)=W):=⟨_,rfl⟩
 have l:ab [] b W:=by rw[<-j.out];exact(ab.refl [] _).alloc _
 have v:W.heap[b.heap.size]?=some (.cells d 68 (0,0)):=by rw[<-j.out];exact QR _ _
 have f:(prog.info? (cr a).e).map (·.size)=some (cr a).size:=by simp[cr,r,g]
 have p:=(s.kept l (by simp)).cells;obtain⟨t,A,i,h,m⟩:=DO (P:=prog) W 33 33 3 b.heap.size a.length w a.length y1 (cr a) d 68 underlying33 f v rfl (vm a) p.1 p.2 x (Gh a);have n:Hid (t.heap[b.heap.size]?=some (.cells (qJ a).toArray 68 (0,0))):=i;have o:Hid (ab [] b t):=((l.mono (S':=[b.heap.size]) (by simp)).trans h).mono (by simp);clear s l v p f i h m x;go_enter func29,ntmps29
 go_upto_region 2 with fail
 rw[j.out];go_wp2;go_ret;exact⟨rfl,n.out,o.out⟩
end Go.Proofs.YtpddjjabfbfifaaGreat
