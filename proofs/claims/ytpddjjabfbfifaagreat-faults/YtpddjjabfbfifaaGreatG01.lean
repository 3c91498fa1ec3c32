import Derived.Test.YtpddjjabfbfifaaGreatChecked
import Derived.WalkKit
import Derived.WalkSpells
import Derived.WalkLawsBesides
import Derived.Deep.QuietTactic
import Derived.BigQuiet
import Derived.Deep.LoopGhost
import Derived.Laws.CopyRow
import Derived.Laws.MakeOwn
import Derived.Deep.RegionLaw
import Derived.Deep.RegionHeld3
import Derived.Deep.CutRange
namespace Go.Proofs.YtpddjjabfbfifaaGreat
open Go.RowKit Tryz
set_option maxHeartbeats 0
variable{y:List Nat}{b x:World}{l S y4 y5:Nat}{N:Array Value}{y6:Obj}{L:Program}{g zt y0:Value}{z4:Bool}{y2:Int}{D k:ByteArray}{i:List Value}{y3:Array Oper}{I:Oper}{M:Act}{y7:Exit->Act->World->Prop}{z6:Nat->Int}{y1 z7:Nat×Nat}{zb:Option Addr}(d:ByteArray)(o:Nat)(a:Int)(T:Nat)(n w:ByteArray)(f:World)(z5:Option Addr)(v H:Nat)
abbrev QP:=@List.getElem?_eq_getElem
abbrev QQ:=@List.getD_eq_getElem?_getD
abbrev QR:=@Nat.le_refl
abbrev QS:=@Go.heap_alloc_new
abbrev QT:=@if_neg
abbrev QU:=@Go.Calls.mono
abbrev QV:=@Or.inr
abbrev QW:=@if_pos
abbrev QX:=@Nat.lt_of_lt_of_le
abbrev QY:=@Go.bodyPost_ret
abbrev QZ:=@Go.World.ownsRow_nil
abbrev Q0:=@List.length_append
abbrev Q1:=@Or.inl
abbrev Q3:=@Nat.le_trans
abbrev Q4:=@Go.RowKit.Below.heap_setCell
abbrev Q5:=@List.getElem?_append_right
abbrev Q6:=@Go.World.cell?_of_block
abbrev Q7:=@List.getElem?_append_left
abbrev Q8:=@List.getElem?_eq_some_iff
abbrev Q9:=@List.mem_singleton
abbrev Ra:=@List.mem_range
abbrev Rb:=@List.getElem_mem
abbrev Rc:=@Nat.one_pos
abbrev Rd:=@Go.Calls.quiet_of_same
abbrev Re:=@Go.info_parts
abbrev Rf:=@List.drop_eq_getElem_cons
abbrev Rg:=@Bool.and_eq_true
abbrev Rh:=@beq_eq_false_iff_ne
abbrev Ri:=@List.length_map
abbrev Rj:=@List.mem_cons
abbrev Rk:=@List.eq_nil_of_length_eq_zero
abbrev Rl:=@List.append_nil
abbrev Rm:=@List.mem_cons_of_mem
abbrev Rn:=@List.mem_cons_self
abbrev Ro:=@Nat.zero_le
abbrev Rp:=@List.length_cons
abbrev Rq:=@List.getElem?_map
abbrev Rr:=@List.mem_append
abbrev Rs:=@List.length_nil
abbrev Rt:=@Bool.false_eq_true
abbrev Ru:=@List.setIfInBounds_toArray
abbrev Rv:=@List.length_set
abbrev Rx:=@List.getElem?_eq_none
abbrev Ry:=@List.map_append
abbrev Rz:=@List.mem_of_find?_eq_some
abbrev RB:=@Bool.or_eq_true
abbrev RC:=@List.any_eq_true
abbrev RG:=@List.take_succ_eq_append_getElem
abbrev RH:=@List.mem_filter
abbrev RI:=@List.flatMap_cons
abbrev RK:=@List.take_length
abbrev RM:=@Nat.le_of_lt
abbrev RN:=@List.mem_append_left
abbrev RO:=@List.not_mem_nil
abbrev RQ:=@List.length_take
abbrev RT:=@List.length_drop
abbrev RU:=@List.getElem?_set
abbrev RV:=@List.filter_append
abbrev RY:=@Nat.sub_self
abbrev RZ:=@Go.ByteArray.toList_eq
abbrev R0:=@List.getElem_of_mem
abbrev R2:=@Bool.or_eq_false_iff
abbrev R4:=@List.mem_of_getElem?
abbrev R6:=@List.range_succ
abbrev R8:=@List.drop_of_length_le
abbrev R9:=@Go.IntKind.wrap_i64
abbrev Sa:=@Int.toNat_natCast
abbrev Sb:=@decide_eq_false
abbrev Sc:=@List.length_filter_le
abbrev Sd:=@ByteArray.size_append
abbrev Se:=@List.mem_append_right
abbrev Sf:=@List.getElem?_replicate
abbrev Sg:=@List.drop_append_of_le_length
abbrev Sh:=@List.flatMap_append
abbrev Si:=@List.mem_map
abbrev Sj:=@List.find?_range_eq_some
abbrev Sk:=@List.find?_eq_none
abbrev Sn:=@List.all_eq_true
abbrev So:=@List.take_append_of_le_length
abbrev Sp:=@Bool.false_or
abbrev Sq:=@List.ext_getElem?
abbrev Sr:=@if_false
abbrev Ss:=@List.filter_cons_of_neg
abbrev Su:=@Go.size_madeCells
abbrev Sv:=@Bool.true_and
abbrev Sw:=@List.foldl_append
abbrev Sx:=@decide_eq_true_eq
abbrev Sy:=@List.append_assoc
abbrev Sz:=@Bool.or_false
abbrev SA:=@Bool.eq_iff_iff
abbrev SB:=@List.set_cons_succ
abbrev SD:=@Nat.add_sub_cancel
abbrev SE:=@List.getElem?_cons_succ
abbrev SF:=@List.length_dropLast
abbrev SG:=@List.filter_cons_of_pos
abbrev SJ:=@Nat.zero_add
abbrev SL:=@Nat.mul_le_mul
abbrev SM:=@decide_eq_true
abbrev SN:=@List.takeWhile_cons_of_pos
abbrev SO:=@List.getLast?_eq_getElem?
abbrev SQ:=@or_false
abbrev SS:=@List.set_append_right
abbrev SU:=@List.filterMap_append
abbrev SV:=@List.getElem?_drop
abbrev SZ:=@Go.wp_loop_rounds
abbrev Ta:=@List.getLast?_eq_some_getLast
abbrev Tb:=@List.mem_of_mem_take
abbrev Tc:=@List.getLast?_concat
abbrev Td:=@List.take_add_one
abbrev Te:=@List.getElem?_cons_zero
abbrev Tf:=@List.length_range
abbrev Tg:=@Nat.add_zero
abbrev Th:=@List.filter_eq_nil_iff
abbrev Ti:=@List.cons_append
abbrev Tj:=@List.getElem?_take
abbrev Tl:=@List.takeWhile_cons_of_neg
abbrev Tm:=@List.find?_some
abbrev Tn:=@List.map_set
abbrev To:=@List.length_filterMap_le
abbrev Tp:=@List.map_cons
abbrev Tq:=@List.take_zero
abbrev Tr:=@Go.rounds_succ
abbrev Ts:=@Bool.true_or
abbrev Tu:=@List.take_of_length_le
abbrev Tv:=@List.set_cons_zero
abbrev Tw:=@ByteArray.size_extract
abbrev Ty:=@beq_iff_eq
abbrev Tz:=@List.drop_eq_nil_of_le
abbrev TA:=@List.foldl_cons
abbrev TE:=@List.any_cons
abbrev TF:=@Bool.or_assoc
abbrev TG:=@List.contains_iff_mem
abbrev TH:=@List.any_eq_false
abbrev TI:=@List.getElem_drop
abbrev TJ:=@Int.le_refl
abbrev TM:=@List.set_append_left
abbrev TN:=@Array.toList_setIfInBounds
abbrev TO:=@Nat.le_succ
abbrev TP:=@List.dropLast_subset
abbrev TQ:=@Bool.false_and
abbrev TR:=@LawfulBEq.eq_of_beq
abbrev TT:=@List.mem_flatMap
abbrev TU:=@List.length_pos_iff
abbrev TV:=@List.mem_map_of_mem
abbrev TY:=@List.replicate_succ
abbrev TZ:=@if_true
abbrev T0:=@Nat.not_lt_zero
abbrev Ua:=@Int.tmod_lt_of_pos
abbrev Ub:=@List.getElem_range
abbrev Uc:=@Nat.add_mul
abbrev Ud:=@List.length_eq_zero_iff
abbrev Ue:=@List.all_eq_false
abbrev Uf:=@Go.World.drewN_drewN
abbrev Ug:=@List.getElem?_set_self
abbrev Uh:=@Go.run_convert_bytes_back
abbrev Ui:=@List.pairwise_lt_range
abbrev Uj:=@List.filter_congr
abbrev Uk:=@Array.getElem?_setIfInBounds_ne
abbrev Ul:=@List.take_append_drop
abbrev Um:=@Classical.choose_spec
abbrev Un:=@Array.toList_inj
abbrev Uo:=@List.flatMap_def
abbrev Up:=@List.find?_eq_some_iff_getElem
abbrev Uq:=@Nat.two_pos
abbrev Ur:=@Nat.mul_le_mul_right
abbrev Us:=@List.getElem?_set_ne
abbrev Ut:=@Int.tmod_nonneg
abbrev Uu:=@List.nil_append
abbrev Uv:=@List.dropLast_concat_getLast
abbrev Uw:=@Int.toNat_of_nonneg
abbrev Ux:=@List.map_congr_left
abbrev Uy:=@List.getElem?_range
abbrev Uz:=@Nat.succ_pos
abbrev UA:=@List.map_nil
abbrev UB:=@Nat.mod_two_eq_zero_or_one
abbrev UC:=@List.take_take
abbrev UD:=@Go.World.grownBy.refl
abbrev UE:=@List.mem_filterMap
abbrev UF:=@Go.Calls.quiet_of
abbrev UG:=@List.filter_filter
abbrev UH:=@Bool.true_eq_false
abbrev UI:=@Option.toList_some
abbrev UJ:=@List.pairwise_iff_getElem
abbrev UK:=@Nat.le_succ_of_le
abbrev UL:=@List.map_take
abbrev UM:=@List.take_set
abbrev UN:=@List.ext_getElem
abbrev UO:=@Option.getD_some
abbrev UP:=@List.getLast?_cons_cons
abbrev UQ:=@beq_self_eq_true
abbrev UR:=@Nat.lt_or_ge
abbrev US:=@Nat.le_of_eq
abbrev UT:=@Nat.zero_mul
abbrev UU:=@Option.map_some
abbrev UV:=@beq_false_of_ne
abbrev UW:=@List.any_append
abbrev UX:=@Go.run_underlying
abbrev UY:=@Bool.and_assoc
abbrev UZ:=@Nat.mul_one
abbrev U0:=@List.drop_zero
abbrev U3:=@Nat.add_assoc
abbrev U4:=@ByteArray.ext
abbrev U5:=@Bool.and_comm
abbrev Fs:=List (ByteArray×ByteArray)
structure ab(S:List Nat)(w w':World):Prop where
 os:w'.os=w.os
 tape:w'.tape=w.tape
 output:w'.output=w.output
 size:w.heap.size<=w'.heap.size
 block:∀k,k<w.heap.size->k∉S->w'.heap[k]?=w.heap[k]?
theorem ab.refl(S:List Nat)(w:World):ab S w w:=⟨rfl,rfl,rfl,QR _,fun _ _ _=>rfl⟩
theorem ab.trans{c:World}(h:ab y b x)(k:ab y x c):ab y b c :=
 ⟨k.os.trans h.os,k.tape.trans h.tape,k.output.trans h.output,Q3 h.size k.size,
  fun i a d=>(k.block i (QX a h.size) d).trans (h.block i a d)⟩
theorem ab.mono{S':List Nat}(h:ab y b x)(c:∀k,k∈y->k<b.heap.size->k∈S'):ab S' b x :=
 ⟨h.os,h.tape,h.output,h.size,fun k a e=>h.block k a (fun d=>e (c k d a))⟩
theorem ab.drew(h:ab y b x):ab y b x.drew:=⟨h.os,h.tape,h.output,h.size,h.block⟩
theorem ab.drewN(h:ab y b x)(n:Nat):ab y b (x.drewN n):=⟨h.os,h.tape,h.output,h.size,h.block⟩
theorem ab.alloc(h:ab y b x)(o:Obj):ab y b (x.alloc o) :=
 h.trans ⟨rfl,rfl,rfl,by simp,fun k a _=>Below.heap_alloc _ _ _ a⟩
theorem ab.setCell(h:ab y b x){p:Addr}(a:p.block∈y∨b.heap.size<=p.block)(u:Value):ab y b (x.setCell p u) :=
 ⟨h.os,h.tape,h.output,by have:=h.size;simp[World.setCell];omega,fun k d c=>by
  rw[Q4 _ _ _ _ (by rintro rfl;exact a.elim c (fun a=>by omega))];exact h.block k d c⟩
theorem ab.below(h:ab [] b x):Below b.heap.size b x :=
 ⟨h.os,h.tape,h.output,h.size,fun k a=>h.block k a (by simp)⟩
theorem aa(h:b.heap[l]?=some (.cells N S (0,0)))(i:Nat):b.cell? ⟨l,i,none⟩=N[i]?:=by
 unfold World.cell?;simp[h]
theorem am(h:b.heap[l]?=some (.cells N S (0,0)))(i:Nat):b.frozen? ⟨l,i,none⟩=false:=by
 unfold World.frozen?;simp[h]
theorem ah(h:b.heap[l]?=some (.cells N S (0,0)))(i:Nat)(u:Value) :
  (b.setCell ⟨l,i,none⟩ u).heap[l]?=some (.cells (N.setIfInBounds i u) S (0,0)):=by
 simp[World.setCell,Array.getElem?_modify,h]
theorem ae(h:b.heap[l]?=some y6):l<b.heap.size:=by
 rcases UR l b.heap.size with a | a
 ·exact a
 ·rw[Array.getElem?_eq_none a]at h;simp at h
theorem L8{f:FuncId}(h:Calls L f N (b.drewN (l+S)) fun e a=>e=.returned g/\a=b.drewN (l+S)) :
  Calls L f N (b.drewN (l+S)) fun e a=>e=.returned g/\∃n,a=b.drewN (l+n) :=
 h.mono fun _ _ c=>⟨c.1,S,c.2⟩
theorem aD{b:Bool}(h:z4=b):Ending.returned (.bool z4)=.returned (.bool b):=by rw[h]
theorem QN{k:IntKind}{b:Int}(h:y2=b):Ending.returned (.int k y2)=.returned (.int k b):=by rw[h]
theorem ym(h:D.toList=k.toList):D=k:=by
 rw[RZ,RZ]at h
 cases D;cases k
 simp only[Array.toList_inj]at h;rw[h]
def cO(n:Int):Bool:=n==32||n==9||n==10||n==12||n==13
def fn(n:Int):Bool:=decide (33<=n)&&decide (n<=126)
theorem kl :
  Calls prog 226 #[.int .u8 a] f fun e b=>e=.returned (.bool (cO a))/\b=f:=by
 go_enter func226,ntmps226;go_wp2
 all_goals go_ret
 all_goals (refine⟨?_,rfl⟩;simp[cO, *])
theorem pi :
  Calls prog 229 #[.int .u8 a] f fun e b=>e=.returned (.bool (fn a))/\b=f:=by
 go_enter func229,ntmps229;go_wp2
 all_goals go_ret
 all_goals (refine⟨?_,rfl⟩;first | (simp[fn, *];done) | (simp[fn];omega))
def aF(d:ByteArray)(k:Nat):Int:=if h:k<d.size then((d[k]'h).toNat:Int) else 0
theorem bP(h:H<w.size):aF w H=((w[H]'h).toNat:Int):=by unfold aF;rw[dif_pos h]
def aP(d:ByteArray):Nat->Int
 | 0=>1
 | k+1=>if aF d k==10 then aP d k+1 else aP d k
def bm(d:ByteArray):Nat->Int
 | 0=>1
 | k+1=>if aF d k==10 then 1 else bm d k+1
theorem Ai(k:Nat):1<=aP w k/\aP w k<=k+1:=by
 induction k with
 | zero=>simp[aP]
 | succ k a=>simp only[aP];split <;> omega
theorem zL(k:Nat):1<=bm w k/\bm w k<=k+1:=by
 induction k with
 | zero=>simp[bm]
 | succ k a=>simp only[bm];split <;> omega
def mw(n d:ByteArray)(k:Nat):Array Value:=#[.string n,.string d,.int .i64 k,.int .i64 (aP d k),.int .i64 (bm d k)]
def bV(w:World)(b:Nat)(n d:ByteArray)(k:Nat):Prop:=w.heap[b]?=some (.cells (mw n d k) 300 (0,0))
theorem bV.cells(h:bV b l D k S) :
  b.cell? ⟨l,0,none⟩=some (.string D)/\b.cell? ⟨l,1,none⟩=some (.string k)/\b.cell? ⟨l,2,none⟩=some (.int .i64 S) /\
  b.cell? ⟨l,3,none⟩=some (.int .i64 (aP k S))/\b.cell? ⟨l,4,none⟩=some (.int .i64 (bm k S)):=by
 refine⟨?_,?_,?_,?_,?_⟩ <;> (rw[aa h];rfl)
theorem bV.kept(h:bV b l D k S)(c:ab y b x)(a:l∉y):bV x l D k S :=
 (c.block l (ae h) a).trans h
theorem ab.get(c:ab y b x)(h:b.heap[l]?=some y6)(a:l∉y):x.heap[l]?=some y6 :=
 (c.block l (ae h) a).trans h
theorem AA(h:bV b l D k S)(e:S<k.size)(d:((k[S].toNat:Int)==10)=true)(m:Nat) :
  bV (((((b.drewN m).setCell ⟨l,3,none⟩ (.int .i64 (aP k S+1))).setCell ⟨l,4,none⟩ (.int .i64 0)).setCell ⟨l,4,none⟩ (.int .i64 1)).setCell ⟨l,2,none⟩ (.int .i64 ((S:Int)+1))) l D k (S+1):=by
 have a:(b.drewN m).heap[l]?=some (.cells (mw D k S) 300 (0,0)):=h;have c:=ah (ah (ah (ah a 3 (.int .i64 (aP k S+1))) 4 (.int .i64 0)) 4 (.int .i64 1)) 2 (.int .i64 ((S:Int)+1));unfold bV;rw[c];simp[mw,aP,bm,bP k S e,d]
theorem vf(h:bV b l D k S)(e:S<k.size)(d:((k[S].toNat:Int)==10)=false)(m:Nat) :
  bV (((b.drewN m).setCell ⟨l,4,none⟩ (.int .i64 (bm k S+1))).setCell ⟨l,2,none⟩ (.int .i64 ((S:Int)+1))) l D k (S+1):=by
 have a:(b.drewN m).heap[l]?=some (.cells (mw D k S) 300 (0,0)):=h;have c:=ah (ah a 4 (.int .i64 (bm k S+1))) 2 (.int .i64 ((S:Int)+1));unfold bV;rw[c];simp[mw,aP,bm,bP k S e,d]
theorem C4(r:w.size<=1024)(a:T<w.size)(h:bV f o n w T) :
  Calls prog 227 #[.pointer (some ⟨o,0,none⟩)] f fun e b=>e=.returned (.tuple #[])/\bV b o n w (T+1)/\ab [o] f b:=by
 obtain⟨g,i,j,k,l⟩:=h.cells;have m:=am h 2;have p:=am h 3;have q:=am h 4;have d:=Ai w T;have c:=zL w T;go_enter func227,ntmps227;go_wp2
 go_quiet (fail)
 go_wp2
 go_quiet (fail)
 go_wp2
 all_goals go_end0
 all_goals refine⟨rfl,?_,?_⟩
 ·exact AA h a (by assumption) _
 ·exact((((((ab.refl _ _).drewN _).setCell (Q1 (by simp)) _).setCell (Q1 (by simp)) _).setCell (Q1 (by simp)) _).setCell (Q1 (by simp)) _)
 ·exact vf h a (by assumption) _
 ·exact((((ab.refl _ _).drewN _).setCell (Q1 (by simp)) _).setCell (Q1 (by simp)) _)
theorem yV(h:bV f o n w T) :
  Calls prog 228 #[.pointer (some ⟨o,0,none⟩)] f fun e a=>e=.returned (.agg #[.string n,.int .i64 (aP w T),.int .i64 (bm w T)])/\ab [] f a:=by
 obtain⟨b,c,d,g,i⟩:=h.cells;have j:=ae h;go_enter func228,ntmps228;go_wp2
 go_region
 all_goals go_wp2
 exact QY (v:=.agg #[.string n,.int .i64 (aP w T),.int .i64 (bm w T)]) (by simp[results,results228,go_sem]) rfl ⟨rfl,((ab.refl _ _).alloc _).drew⟩
def pY(d:ByteArray):Nat->Nat->Nat
 | 0,k=>k
 | f+1,k=>if k<d.size/\cO (aF d k)=true then pY d f (k+1) else k
def skip(d:ByteArray)(k:Nat):Nat:=pY d (d.size-k) k
def qc(d:ByteArray):Nat->Nat->Nat
 | 0,k=>k
 | f+1,k=>if k<d.size/\cO (aF d k)=false/\fn (aF d k)=true then qc d f (k+1) else k
def cG(d:ByteArray)(k:Nat):Nat:=qc d (d.size-k) k
theorem GL(h:H<w.size)(a:cO (aF w H)=true):skip w H=skip w (H+1):=by
 unfold skip;rw[show w.size-H=(w.size-(H+1))+1 by omega];rw[pY,QW ⟨h,a⟩]
theorem tw(h:¬(H<w.size/\cO (aF w H)=true)):skip w H=H:=by
 unfold skip
 cases w.size-H with
 | zero=>rfl
 | succ f=>rw[pY,QT h]
theorem GU(h:H<w.size)(a:cO (aF w H)=false)(b:fn (aF w H)=true):cG w H=cG w (H+1):=by
 unfold cG;rw[show w.size-H=(w.size-(H+1))+1 by omega];rw[qc,QW ⟨h,a,b⟩]
theorem xw(h:¬(H<w.size/\cO (aF w H)=false/\fn (aF w H)=true)):cG w H=H:=by
 unfold cG
 cases w.size-H with
 | zero=>rfl
 | succ f=>rw[qc,QT h]
theorem zh(f k:Nat):k<=pY w f k/\(k<=w.size->pY w f k<=w.size):=by
 induction f generalizing k with
 | zero=>simp[pY]
 | succ f a =>
  rw[pY];split
  ·have:=a (k+1);omega
  ·omega
theorem zu(f k:Nat):k<=qc w f k/\(k<=w.size->qc w f k<=w.size):=by
 induction f generalizing k with
 | zero=>simp[qc]
 | succ f a =>
  rw[qc];split
  ·have:=a (k+1);omega
  ·omega
theorem AB(h:H<=w.size):H<=skip w H/\skip w H<=w.size:=⟨(zh w _ H).1,(zh w _ H).2 h⟩
theorem rQ(h:H<=w.size):H<=cG w H/\cG w H<=w.size:=⟨(zu w _ H).1,(zu w _ H).2 h⟩
structure rT where
 text:ByteArray
 rule:Int
 fin:Bool
 pos:Nat
def fg(n d:ByteArray)(i:rT):Value:=.agg #[.string i.text,.int .i64 i.rule,.bool i.fin,.string n,.int .i64 (aP d i.pos),.int .i64 (bm d i.pos)]
def bC(d:ByteArray)(k:Nat):rT×Nat :=
 let a:=skip d k
 let z:=cG d a
 if z<d.size/\cO (aF d z)=false then(⟨⟨#[]⟩,1,false,z⟩,z)
 else if z<=a then(⟨⟨#[]⟩,0,true,a⟩,z)
 else(⟨d.extract a z,0,false,a⟩,z)
theorem CW(b:v=skip d T)(f:cG d H=cG d v)(g:H<d.size)(a:cO (aF d H)=false)(c:fn (aF d H)=false) :
  bC d T=(⟨⟨#[]⟩,1,false,H⟩,H):=by
 have e:cG d (skip d T)=H:=by rw[<-b,<-f];exact xw d H (fun h=>by simp[c]at h)
 simp only[bC,e];rw[QW ⟨g,a⟩]
theorem CX(a:v=skip d T)(c:cG d H=cG d v)(b:¬(H<d.size/\cO (aF d H)=false))(f:H<=v) :
  bC d T=(⟨⟨#[]⟩,0,true,v⟩,H):=by
 have e:cG d (skip d T)=H:=by rw[<-a,<-c];exact xw d H (fun h=>b ⟨h.1,h.2.1⟩)
 simp only[bC,e];rw[QT b,<-a,QW f]
theorem ze(a:v=skip d T)(c:cG d H=cG d v)(b:¬(H<d.size/\cO (aF d H)=false))(f:v<H) :
  bC d T=(⟨d.extract v H,0,false,v⟩,H):=by
 have e:cG d (skip d T)=H:=by rw[<-a,<-c];exact xw d H (fun h=>b ⟨h.1,h.2.1⟩)
 simp only[bC,e];rw[QT b,<-a,QT (by omega)]
theorem Kd :
  (∃h:H<w.size,cO ((w[H]'h).toNat:Int)=false/\fn ((w[H]'h).toNat:Int)=true/\cG w (H+1)=cG w H) ∨
  (∃h:H<w.size,cO ((w[H]'h).toNat:Int)=false/\fn ((w[H]'h).toNat:Int)=false) ∨
  (∃h:H<w.size,cO ((w[H]'h).toNat:Int)=true)∨(¬H<w.size/\decide ((H:Int)<(w.size:Int))=false):=by
 by_cases h:H<w.size
 ·have e:=bP w H h
  cases a:cO (aF w H) with
  | true=>exact QV (QV (Q1 ⟨h,e ▸ a⟩))
  | false =>
   cases b:fn (aF w H) with
   | true=>exact Q1 ⟨h,e ▸ a,e ▸ b,(GU w H h a b).symm⟩
   | false=>exact QV (Q1 ⟨h,e ▸ a,e ▸ b⟩)
 ·exact QV (QV (QV ⟨h,by simp;omega⟩))
def kJ(n:Int):Bool:=decide (33<=n)&&decide (n<=126) && !(n==36)
def fV(s:ByteArray):Bool:=decide (1<=s.size)&&decide (s.size<=8)&&(List.range s.size).all (fun i=>kJ (aF s i))
def cJ(n d:ByteArray):Int:=if fV n=false then 2 else if 1024<d.size then 3 else 0
theorem mn(h:w.size<1∨8<w.size):fV w=false:=by
  unfold fV
  rcases h with h | h
  · simp[show ¬1<=w.size by omega]
  · simp[show ¬w.size<=8 by omega]
theorem El(h:H<w.size)(a:kJ (aF w H)=false):fV w=false:=by
  unfold fV
  have:(List.range w.size).all (fun H=>kJ (aF w H))=false:=by
    rw[Ue];exact⟨H,by simp[h],by simp[a]⟩
  simp[this]
theorem Ce(a:1<=w.size)(b:w.size<=8)(h:∀i,i<w.size->kJ (aF w i)=true):fV w=true:=by
  unfold fV
  have:(List.range w.size).all (fun i=>kJ (aF w i))=true:=by
    rw[Sn];intro i c;exact h i (by simpa using c)
  simp[this,a,b]
theorem rA(r:w.size<=1073741824) :
    Calls prog 77 #[.string w] f fun e o=>e=.returned (.bool (fV w))/\o=f:=by
  by_cases l:1<=w.size
  · by_cases m:w.size<=8
    · go_enter func77,ntmps77
      go_wp2
      go_loopg [3] w.size (fun g i wr=>∃k:Nat,k<=w.size/\g=w.size-k/\i=.int .i64 k/\Hid (∀i,i<k->kJ (aF w i)=true)/\wr=f)
      case atStart=>exact⟨0,by omega,by omega,rfl,fun i h=>by omega,rfl⟩
      case round =>
        obtain⟨k,q,p,rfl,a,rfl⟩:=hrel
        by_cases c:k<w.size
        · have j:∀b:Bool,kJ (w[k].toNat:Int)=b->kJ (aF w k)=b:=fun b h=>by rw[bP w k c];exact h
          have d:Hid (∀b:Bool,kJ (w[k].toNat:Int)=b->kJ (aF w k)=b):=j;clear j;go_wp2
          all_goals first
            | (go_ret;refine⟨aD ?_,rfl⟩;rw[El w k c (d.out false ?_)];first | (simp[kJ];omega) | (simp[kJ];simp at *;omega))
            | (go_roundg (w.size-(k+1))
               case measure=>omega
               case rel =>
                 refine⟨k+1,by omega,rfl,by go_num,?_,rfl⟩;intro i n
                 by_cases e:i=k
                 · subst e;exact d.out true (by simp[kJ];simp at *;omega)
                 · exact a.out i (by omega))
        · go_wp2
          go_ret;exact⟨aD (Ce w l m (fun i n=>a.out i (by omega))).symm,rfl⟩
    · go_enter func77,ntmps77
      go_wp2
      all_goals go_ret
      all_goals exact⟨aD (mn w (QV (by omega))).symm,rfl⟩
  · go_enter func77,ntmps77
    go_wp2
    all_goals go_ret
    all_goals exact⟨aD (mn w (Q1 (by omega))).symm,rfl⟩
theorem nM(b:n.size<=1073741824)(h:w.size<=4294967296) :
    Calls prog 49 #[.string n,.string w] f fun e g=>e=.returned (.int .i64 (cJ n w))/\g=f:=by
  cases a:fV n
  · go_enter func49,ntmps49
    go_wp2_with fail;refine(rA n _ b).mono ?_;rintro e d ⟨rfl,rfl⟩;go_wp2;go_ret;exact⟨QN (by simp[cJ,a]),rfl⟩
  · by_cases c:1024<w.size
    · go_enter func49,ntmps49
      go_wp2_with fail;refine(rA n _ b).mono ?_;rintro e d ⟨rfl,rfl⟩;go_wp2;go_ret;exact⟨QN (by simp[cJ,a,c]),rfl⟩
    · go_enter func49,ntmps49
      go_wp2_with fail;refine(rA n _ b).mono ?_;rintro e d ⟨rfl,rfl⟩;go_wp2;go_ret;exact⟨QN (by simp[cJ,a,c]),rfl⟩
def aE(fs:Fs)(i:Nat):ByteArray:=(fs.getD i (⟨#[]⟩,⟨#[]⟩)).1
def ak(fs:Fs)(i:Nat):ByteArray:=(fs.getD i (⟨#[]⟩,⟨#[]⟩)).2
def oX(fs:Fs):List Value :=
  [.string (aE fs 0),.string (ak fs 0),.string (aE fs 1),.string (ak fs 1),.string (aE fs 2),.string (ak fs 2),.string (aE fs 3),.string (ak fs 3),.int .i64 fs.length]
def bi(w:World)(v t:Nat)(fs:Fs)(more:List Value):Prop:=w.heap[v]?=some (.cells (oX fs++more).toArray t (0,0))/\fs.length<=4
theorem bi.name{c:Fs}(h:bi b l S c i)(a:Nat)(d:a<4) :
    b.cell? ⟨l,a*2,none⟩=some (.string (aE c a))/\b.cell? ⟨l,a*2+1,none⟩=some (.string (ak c a)):=by
  constructor <;> rw[aa h.1]
  · match a,d with
    | 0,_=>rfl
    | 1,_=>rfl
    | 2,_=>rfl
    | 3,_=>rfl
  · match a,d with
    | 0,_=>rfl
    | 1,_=>rfl
    | 2,_=>rfl
    | 3,_=>rfl
theorem bi.count{a:Fs}(h:bi b l S a i) :
    b.cell? ⟨l,8,none⟩=some (.int .i64 a.length):=by
  rw[aa h.1];rfl
def du(n:ByteArray):Fs->Nat->Int
  | [],_=>-1
  | f :: r,i=>if(f.1.toList==n.toList)=true then i else du n r (i+1)
def bF(fs:Fs)(n:ByteArray):Int:=du n fs 0
theorem Gc{α:Type}(l:List α)(k:Nat)(h:k<l.length):l.drop k=l[k] :: l.drop (k+1):=Rf h
theorem yq(a:Fs)(k:Nat)(h:k<a.length):aE a k=a[k].1:=by
  unfold aE;rw[QQ,QP h];rfl
theorem BD(a:Fs)(n:ByteArray)(k:Nat)(h:k<a.length)(c:bF a n=du n (a.drop k) k)(b:((aE a k).toList==n.toList)=true):bF a n=k:=by
  rw[c,Gc _ _ h,du,<-yq a k h,QW b]
theorem yx(a:Fs)(n:ByteArray)(k:Nat)(h:k<a.length)(c:bF a n=du n (a.drop k) k)(b:((aE a k).toList==n.toList)=false):bF a n=du n (a.drop (k+1)) (k+1):=by
  rw[c,Gc _ _ h,du,<-yq a k h,QT (by simp[b])]
theorem yA(a:Fs)(n:ByteArray)(k:Nat)(h:¬k<a.length)(b:bF a n=du n (a.drop k) k):bF a n=-1:=by
  rw[b,R8 (by omega),du]
theorem lN(b:Fs)(f:List Value)(n:ByteArray)(w:World)(h:bi w v H b f) :
    Calls prog 50 #[.pointer (some ⟨v,0,none⟩),.string n] w fun e o=>e=.returned (.int .i64 (bF b n))/\o=w:=by
  have l:=h.count;have m:=h.2;go_enter func50,ntmps50;go_wp2
  go_loopg [5] b.length (fun g i wr=>∃k:Nat,k<=b.length/\g=b.length-k/\i=.int .i64 k/\Hid (bF b n=du n (b.drop k) k)/\wr=w)
  case atStart=>exact⟨0,by omega,by omega,rfl,rfl,rfl⟩
  case round =>
    obtain⟨k,q,p,rfl,a,rfl⟩:=hrel
    by_cases c:k<b.length
    · obtain⟨r,s⟩:=h.name k (by omega)
      cases j:((aE b k).toList==n.toList)
      · have d:Hid (bF b n=du n (b.drop (k+1)) (k+1)):=yx b n k c a.out j
        clear a;go_wp2
        go_roundg (b.length-(k+1))
        case measure=>omega
        case rel=>exact⟨k+1,by omega,rfl,by go_num,d,rfl⟩
      · have d:Hid (bF b n=k):=BD b n k c a.out j
        clear a;go_wp2;go_ret;exact⟨QN d.out.symm,rfl⟩
    · have d:Hid (bF b n=-1):=yA b n k c a.out
      clear a;go_wp2;go_ret;exact⟨QN d.out.symm,rfl⟩
theorem bi.free{c:Fs}(h:bi b l S c i)(a:Nat):b.frozen? ⟨l,a,none⟩=false:=am h.1 a
theorem bi.kept{a:Fs}(h:bi b l S a i)(c:ab y b x)(d:l∉y):bi x l S a i :=
 ⟨c.get h.1 d,h.2⟩
theorem bi.lt{a:Fs}(h:bi b l S a i):l<b.heap.size:=ae h.1
theorem Lf(a:Fs)(b:List Value)(w:World)(h:bi w T v a b)(i:H<a.length) :
  Calls prog 154 #[.pointer (some ⟨T,0,none⟩),.int .i64 H] w fun e g=>e=.returned (.agg #[.string (aE a H),.string (ak a H)])/\ab [] w g:=by
 have c:=h.count;have d:=h.2;have f:=h.lt;obtain⟨j,k⟩:=h.name H (by omega);go_enter func154,ntmps154;go_wp2;exact QY (v:=.agg #[.string (aE a H),.string (ak a H)]) (by simp[results,results154,go_sem]) rfl ⟨rfl,(ab.refl _ _).alloc _⟩
theorem Oe(f:Fs)(e:List Value)(n d:ByteArray)(h:f.length<4) :
  (((oX f++e).set (f.length*2) (.string n)).set (f.length*2+1) (.string d)).set 8 (.int .i64 ((f.length:Int)+1))=oX (f++[(n,d)])++e:=by
 match f,h with
 | [],_=>rfl
 | [a],_=>rfl
 | [a,b],_=>rfl
 | [a,b,c],_=>rfl
theorem Of(g:Fs)(f:List Value)(n d:ByteArray)(k:Nat)(i:k<g.length)(h:g.length<=4) :
  ((oX g++f).set (k*2) (.string n)).set (k*2+1) (.string d)=oX (g.set k (n,d))++f:=by
 match g,h,k,i with
 | [a],_,0,_=>rfl
 | [a,b],_,0,_=>rfl
 | [a,b],_,1,_=>rfl
 | [a,b,c],_,0,_=>rfl
 | [a,b,c],_,1,_=>rfl
 | [a,b,c],_,2,_=>rfl
 | [a,b,c,e],_,0,_=>rfl
 | [a,b,c,e],_,1,_=>rfl
 | [a,b,c,e],_,2,_=>rfl
 | [a,b,c,e],_,3,_=>rfl
theorem bi.added{a:Fs}(h:bi b l S a i)(n d:ByteArray)(e:a.length<4) :
  bi (((b.setCell ⟨l,a.length*2,none⟩ (.string n)).setCell ⟨l,a.length*2+1,none⟩ (.string d)).setCell ⟨l,8,none⟩ (.int .i64 ((a.length:Int)+1))) l S (a++[(n,d)]) i:=by
 have c:=ah (ah (ah h.1 (a.length*2) (.string n)) (a.length*2+1) (.string d)) 8 (.int .i64 ((a.length:Int)+1));refine⟨?_,by simp;omega⟩;rw[c];simp only[List.setIfInBounds_toArray,Oe a i n d e]
theorem bi.turned{a:Fs}(h:bi b l S a i)(n d:ByteArray)(k:Nat)(e:k<a.length) :
  bi ((b.setCell ⟨l,k*2,none⟩ (.string n)).setCell ⟨l,k*2+1,none⟩ (.string d)) l S (a.set k (n,d)) i:=by
 have c:=ah (ah h.1 (k*2) (.string n)) (k*2+1) (.string d);refine⟨?_,by simpa using h.2⟩;rw[c];simp only[List.setIfInBounds_toArray,Of a i n d k e h.2]
theorem FX(b:Fs)(a:List Value)(c:World)(h:bi c o T b a)(i:b.length<4) :
  Calls prog 51 #[.pointer (some ⟨o,0,none⟩),.agg #[.string n,.string w]] c fun e f=>e=.returned (.tuple #[])/\bi f o T (b++[(n,w)]) a/\ab [o] c f:=by
 have d:=h.count;have g:=h.free;have j:=h.lt;obtain⟨k,l⟩:=h.name b.length (by omega);go_enter func51,ntmps51;go_wp2
 go_region
 all_goals go_wp2
 all_goals go_end0
 exact⟨rfl,(h.added n w i).kept ((ab.refl [] _).alloc _ |>.drew) (by simp),((((ab.refl _ _).setCell (Q1 (by simp)) _).setCell (Q1 (by simp)) _).setCell (Q1 (by simp)) _).alloc _ |>.drew⟩
def fc(fs:Fs)(n d:ByteArray):Int×Fs :=
 if cJ n d≠0 then(cJ n d,fs)
 else if 0<=bF fs n then(0,fs.set (bF fs n).toNat (n,d))
 else if 4<=fs.length then(1,fs) else(0,fs++[(n,d)])
theorem BB(a:Fs)(i:Nat):du w a i=-1∨((i:Int)<=du w a i/\du w a i<i+a.length):=by
 induction a generalizing i with
 | nil=>exact Q1 rfl
 | cons f r b =>
  rw[du];split
  ·exact QV ⟨by omega,by simp;omega⟩
  ·rcases b (i+1) with h | h
   ·exact Q1 h
   ·exact QV ⟨by omega,by simp;omega⟩
theorem pI(a:Fs):bF a w=-1∨∃k:Nat,k<a.length/\bF a w=k:=by
 rcases BB w a 0 with h | h
 ·exact Q1 h
 ·refine QV ⟨(bF a w).toNat,?_,?_⟩ <;> (unfold bF;omega)
theorem GE(a:Fs)(b:List Value)(q:World)(h:bi q o T a b)(m:n.size<=1073741824)(l:w.size<=4294967296) :
  Calls prog 32 #[.pointer (some ⟨o,0,none⟩),.string n,.string w] q fun e u=>e=.returned (.int .i64 (fc a n w).1)/\bi u o T (fc a n w).2 b/\ab [o] q u:=by
 have r:=h.count;have A:=h.lt;have t:=h.2
 by_cases c:cJ n w=0
 ·rcases pI n a with g | ⟨k,z,g⟩
  ·by_cases s:4<=a.length
   ·have f:Hid (fc a n w=(1,a)):=by show fc a n w=_;simp[fc,c,g,s]
    have j:Hid (cJ n w=0):=c;have d:Hid (bF a n=-1):=g;clear c g;go_enter func32,ntmps32;go_wp2_with fail;refine(nM n w _ m l).mono ?_;rintro e i ⟨rfl,rfl⟩;rw[j.out];go_wp2_with fail;refine(lN o T a b n _ (by exact h.kept ((ab.refl [] _).alloc _) (by simp))).mono ?_;rintro e i ⟨rfl,rfl⟩;rw[d.out];go_wp2;go_ret;exact⟨QN (by rw[f.out]),by rw[f.out];exact h.kept ((ab.refl [] _).alloc _) (by simp),(ab.refl _ _).alloc _⟩
   ·have f:Hid (fc a n w=(0,a++[(n,w)])):=by show fc a n w=_;simp[fc,c,g,s]
    have j:Hid (cJ n w=0):=c;have d:Hid (bF a n=-1):=g;clear c g;go_enter func32,ntmps32;go_wp2_with fail;refine(nM n w _ m l).mono ?_;rintro e i ⟨rfl,rfl⟩;rw[j.out];go_wp2_with fail;refine(lN o T a b n _ (by exact h.kept ((ab.refl [] _).alloc _) (by simp))).mono ?_;rintro e i ⟨rfl,rfl⟩;rw[d.out];go_wp2_with fail;refine(FX o T n w a b _ (by exact h.kept ((ab.refl [] _).alloc _) (by simp)) (by omega)).mono ?_;rintro e D ⟨rfl,v,p⟩;go_wp2;go_ret;exact⟨QN (by rw[f.out]),by rw[f.out];exact v,((ab.refl _ _).alloc _).trans p⟩
  ·have f:Hid (fc a n w=(0,a.set k (n,w))):=by show fc a n w=_;simp[fc,c,g]
   have j:Hid (cJ n w=0):=c;have d:Hid (bF a n=k):=g;obtain⟨B,C⟩:=h.name k (by omega);have y:=h.free;clear c g;go_enter func32,ntmps32;go_wp2_with fail;refine(nM n w _ m l).mono ?_;rintro e i ⟨rfl,rfl⟩;rw[j.out];go_wp2_with fail;refine(lN o T a b n _ (by exact h.kept ((ab.refl [] _).alloc _) (by simp))).mono ?_;rintro e i ⟨rfl,rfl⟩;rw[d.out];go_wp2_with fail
   go_region
   all_goals go_wp2
   all_goals go_ret
   exact⟨QN (by rw[f.out]),by rw[f.out];exact(h.turned n w k z).kept ((ab.refl [] _).alloc _ |>.drew) (by simp),(((ab.refl _ _).setCell (Q1 (by simp)) _).setCell (Q1 (by simp)) _).alloc _ |>.drew⟩
 ·have f:Hid (fc a n w=(cJ n w,a)):=by show fc a n w=_;simp[fc,c]
  have x:(cJ n w != 0)=true:=by simp[c]
  clear c;go_enter func32,ntmps32;go_wp2_with fail;refine(nM n w _ m l).mono ?_;rintro e i ⟨rfl,rfl⟩;go_wp2;go_ret;exact⟨QN (by rw[f.out]),by rw[f.out];exact h,ab.refl _ _⟩
structure Hd where
 ao:Option Addr
 cap:Nat
def Hd.blk(h:Hd):Option Nat:=h.ao.map (·.block)
structure dN where
 e:TypeId
 size:Nat
 n:Nat
 xs:List Value
def aw(w:World)(h:Hd)(r:dN):Prop:=w.ownsRow 0 r.e r.size (.slice h.ao r.n h.cap) r.n r.xs
theorem Ar(h:Hd)(n:Nat):(Value.slice h.ao n h.cap).ownBlock=h.blk:=by
 unfold Hd.blk;cases h.ao <;> rfl
theorem aw.lt{h:Hd}{r:dN}(o:aw b h r){k:Nat}(a:h.blk=some k):k<b.heap.size :=
 (World.ownsRow.lt (h:=o) k (by rw[Ar];exact a)).2
theorem aw.Vg{w':World}{h:Hd}{r:dN}(o:aw b h r)(p:∀k,h.blk=some k->w'.heap[k]?=b.heap[k]?):aw w' h r:=by
 refine⟨o.1,?_⟩
 rcases o.2 with n | ⟨g,c,d,a,l,m,e,f,i,j⟩
 ·exact Q1 n
 ·refine QV ⟨g,c,d,a,l,?_,e,f,i,j⟩
  rw[p g (by unfold Hd.blk;injection a with a;rw[a];rfl)];exact m
theorem aw.Vm{h:Hd}{r:dN}(o:aw b h r) :
  (h=⟨none,0⟩/\r.n=0/\r.xs=[])∨∃g a,h.ao=some ⟨g,0,none⟩/\b.heap[g]?=some (.cells a r.e (0,0))/\r.n<=h.cap/\h.cap<=maxLen/\a.size=h.cap*r.size/\a.toList.take (r.n*r.size)=r.xs:=by
 rcases o.2 with ⟨c,i⟩ | ⟨g,k,a,c,t,s,l,m,p,q⟩
 ·left
  injection c with d j f
  refine⟨by cases h;simp_all,i,Rk (by rw[o.1,i];simp)⟩
 ·right
  injection c with d j f
  subst f;exact⟨g,a,d,s,l,m,p,q⟩
theorem bL:(⟨v,0,none⟩:Addr).add H=⟨v,H,none⟩:=by
 simp only[Addr.add]
 split
 ·next h=>subst h;rfl
 ·simp
theorem aw.cell{h:Hd}{r:dN}(o:aw b h r)(a:h.ao=some ⟨l,0,none⟩)(j:Nat)(u:Value)(c:r.xs[j]?=some u):b.cell? ⟨l,j,none⟩=some u:=by
 have:=o.cells (g:=l) (by rw[Ar];unfold Hd.blk;rw[a];rfl) j u c;rw[bL]at this;exact this
theorem aM{y:List Oper}(S:I.guard=none)(s x:Operand)(t:TypeId)(C:I.op=Op.call { callee:=Callee.builtin Builtin.append,args:=#[s,x],argTypes:=#[t,t] })(i:TypeInfo)(z:Value)(l:Nat)(h:Hd)(r:dN)(K:L.underlying t=some (.slice r.e))(N:L.info? r.e=some i)(h3:i.zero=some z)(O:i.size=r.size)(h5:i.bytes=l)(h6:z.cells.size=r.size)(h7:0<r.size)(U:M.eval s=.slice h.ao r.n h.cap)(p:aw f h r)(E:Addr)(m c:Nat)(d:List Value)(V:M.eval x=.slice (some E) m c)(T:d.length=m*r.size)(R:∀j u,d[j]?=some u->f.cell? (E.add j)=some u)(B:∀u∈d,u.oneCell'=true)(hm:0<m)(b1:r.n+m<=maxLen)(H:(r.n+m)*l<=140737488355328)(P:∀g a w,aw w ⟨some ⟨g,0,none⟩,a⟩ ⟨r.e,r.size,r.n+m,r.xs++d⟩->f.grownBy w h.blk->(h.blk=some g∨f.heap.size<=g)->wpList L y3 y7 y (M.put I.dst (.slice (some ⟨g,0,none⟩) (r.n+m) a)) w) :
  wpList L y3 y7 (I :: y) M f:=by
 rcases p.Vm with ⟨v,A,J⟩ | ⟨g,F,v,A,J,e4,e5,e6⟩
 ·refine wpList_append_grows f S s x t C r.e i z r.size l K N h3 O h5 h6 h7 none 0 0 [] (by rw[U,v,A]) (fun _=>⟨rfl,rfl⟩) (by simp) (by intro b Q;cases Q) E m c d V T R B (by omega) (by omega) (by rw[A]at H;exact H) ?_
  intro v' w D o
  rcases D.2 with ⟨_,q⟩ | ⟨g,a,F,W,X,Y,Z,q5,q6,q7⟩
  ·omega
  ·have:=P g a w ⟨by have:=D.1;simpa [J,A] using this,QV ⟨g,a,F,by simp,Ro _,Y,by simpa [A] using Z,q5,q6,by simpa [A,J] using q7⟩⟩ (by rw[v];exact o) (QV X)
   rw[W];simpa [A] using this
 ·by_cases hf:r.n+m<=h.cap
  ·refine wpList_append_fits f S s x t C 0 r.e i r.size K N O g r.n h.cap r.xs (by rw[U,v]) (by have:=p;unfold aw at this;rw[v]at this;exact this) E m c d V T R B hf ?_
   intro w D o;exact P g h.cap w D (by unfold Hd.blk;rw[v];exact o) (Q1 (by unfold Hd.blk;rw[v];rfl))
  ·refine wpList_append_grows f S s x t C r.e i z r.size l K N h3 O h5 h6 h7 (some ⟨g,0,none⟩) r.n h.cap r.xs (by rw[U,v]) (by intro hh;cases hh) p.1 (by intro b Q j u hj;cases Q;rw[bL];exact p.cell v j u hj) E m c d V T R B (by omega) b1 H ?_
   intro v' w D o
   rcases D.2 with ⟨_,q⟩ | ⟨g',a,G,W,X,Y,Z,q5,q6,q7⟩
   ·omega
   ·have:=P g' a w ⟨D.1,QV ⟨g',a,G,rfl,Ro _,Y,Z,q5,q6,q7⟩⟩ ⟨o.os,o.tape,o.output,o.size,fun k hk _=>o.block k hk (by simp)⟩ (QV X)
    rw[W];exact this
theorem xQ{P:Program}(q G H c:TypeId)(g k a:Nat)(h:Hd)(r:dN)(b:Array Value)(t:TypeId)(F:P.underlying q=some (.slice c))(s:(P.info? c).map (·.size)=some a)(D:r.size=a)(z:f.heap[g]?=some (.cells b t (0,0)))(m:aw f h r)(E:b.size=r.n*a)(y:∀v∈r.xs,v.oneCell'=true) :
  (Builtin.copy_ #[q,G] H #[.slice (some ⟨g,0,none⟩) r.n k,.slice h.ao r.n h.cap]).run P f=.ok (goInt r.n) (f.setRow g r.xs.toArray):=by
 have C:r.xs.length=r.n*a:=by have:=m.1;rw[D]at this;exact this
 have d:=run_storeCells_at P g 0 t r.xs 0 b f z (by simp;omega) y
 have u:(b.toList.take (0+0)++r.xs++b.toList.drop (0+0+r.xs.length))=r.xs:=by
  simp;omega
 rw[u]at d
 have l:(Builtin.firstCells a r.n (.slice h.ao r.n h.cap)).run P f=.ok r.xs.toArray f:=by
  rcases m.Vm with ⟨e,I,w⟩ | ⟨x,p,e,_⟩
  ·rw[e,w];exact run_firstCells_none f _ _ _ _
  ·rw[e];exact run_firstCells_some f a r.n ⟨x,0,none⟩ r.n h.cap r.xs C (fun j v B=>by rw[bL];exact m.cell e j v B)
 cases o:P.info? c with
 | none=>simp[o]at s
 | some i =>
  have A:i.size=a:=by simpa [o] using s
  simp[Builtin.copy_,run_underlying F,Builtin.lenOf,sizeOf,typeInfo,o,A,l,d]
theorem uJ(h:ab y b x)(a:l∈y∨b.heap.size<=l)(c:Array Value):ab y b (x.setRow l c) :=
 ⟨h.os,h.tape,h.output,by have:=h.size;simp[World.setRow];omega,fun k e d=>by
  rw[setRow_other x l k c (by rintro rfl;exact a.elim d (fun a=>by omega))];exact h.block k e d⟩
theorem tP{P:Program}(d k l:TypeId)(g b:Nat)(h:Hd)(r:dN)(a:Array Value)(t:TypeId)(q:P.underlying d=some (.slice r.e))(p:(P.info? r.e).map (·.size)=some r.size)(j:f.heap[g]?=some (.cells a t (0,0)))(o:aw f h r)(i:a.size=r.n*r.size)(m:∀v∈r.xs,v.oneCell'=true) :
  ∃c,(Builtin.copy_ #[d,k] l #[.slice (some ⟨g,0,none⟩) r.n b,.slice h.ao r.n h.cap]).run P f=.ok (goInt r.n) c/\c.heap[g]?=some (.cells r.xs.toArray t (0,0))/\ab [g] f c/\c.heap.size=f.heap.size :=
 ⟨_,xQ (P:=P) f d k l r.e g b r.size h r a t q p rfl j o i m,setRow_heap f g _ _ t _ j,uJ (ab.refl _ _) (Q1 (by simp)) _,by simp[World.setRow]⟩
theorem aw.made{r:dN}(c:b.heap[l]?=some (.cells r.xs.toArray r.e (0,0)))(a:r.xs.length=r.n*r.size)(d:r.n<=maxLen):aw b ⟨some ⟨l,0,none⟩,r.n⟩ r :=
 ⟨a,QV ⟨l,r.n,r.xs.toArray,rfl,Ro _,c,QR _,d,by simpa using a,by simp[<-a]⟩⟩
theorem pX{P:Program}(t D:TypeId)(i:TypeInfo)(z:Value)(d:Nat)(h:Hd)(r:dN)(G:P.underlying t=some (.slice r.e))(H:P.info? r.e=some i)(U:i.zero=some z)(I:i.size=r.size)(V:i.bytes=d)(W:z.cells.size=r.size)(X:0<r.size)(p:aw f h r)(y:Addr)(m c:Nat)(b:List Value)(K:b.length=m*r.size)(J:∀j u,b[j]?=some u->f.cell? (y.add j)=some u)(C:∀u∈b,u.oneCell'=true)(hm:0<m)(Y:r.n+m<=maxLen)(E:(r.n+m)*d<=140737488355328) :
  ∃g a v,(Builtin.append_ #[t,t] D #[.slice h.ao r.n h.cap,.slice (some y) m c]).run P f=.ok (.slice (some ⟨g,0,none⟩) (r.n+m) a) v /\
   aw v ⟨some ⟨g,0,none⟩,a⟩ ⟨r.e,r.size,r.n+m,r.xs++b⟩/\f.grownBy v h.blk/\(h.blk=some g∨f.heap.size<=g):=by
 rcases p.Vm with ⟨s,x,F⟩ | ⟨g,A,s,x,F,e4,e5,e6⟩
 ·obtain⟨v',v,o,w,l,_⟩:=run_append_own (P:=P) f f.heap.size t D r.e i z r.size d G H U I V W X (.slice none 0 0) 0 [] (QZ f _ r.e r.size) y m c b K J C (by omega) (by rw[x]at E;exact E) (QR _)
  rcases w.2 with ⟨_,q⟩ | ⟨g,a,A,L,M,N,O,Q,R,S⟩
  ·omega
  ·refine⟨g,a,v,?_,⟨by have:=w.1;simpa [F,x] using this,QV ⟨g,a,A,by simp,Ro _,N,by simpa [x] using O,Q,R,by simpa [x,F] using S⟩⟩,?_,QV M⟩
   ·rw[s,x,o,L]
   ·rw[s];exact l
 ·by_cases Z:r.n+m<=h.cap
  ·obtain⟨v,o,w,l⟩:=run_append_fits (P:=P) f 0 t D r.e i r.size G H I g r.n h.cap r.xs (by have:=p;unfold aw at this;rw[s]at this;exact this) y m c b K J C Z
   exact⟨g,h.cap,v,by rw[s,o],w,by unfold Hd.blk;rw[s];exact l,Q1 (by unfold Hd.blk;rw[s];rfl)⟩
  ·obtain⟨v',v,o,w,l⟩:=run_append_arg_grows (P:=P) f t D r.e i z r.size d G H U I V W X ⟨g,0,none⟩ r.n h.cap r.xs p.1 (by intro j u hj;rw[bL];exact p.cell s j u hj) y m c b K J (by omega) Y E
   rcases w.2 with ⟨_,q⟩ | ⟨T,a,B,L,M,N,O,Q,R,S⟩
   ·omega
   ·exact⟨T,a,v,by rw[s,o,L],⟨w.1,QV ⟨T,a,B,rfl,Ro _,N,O,Q,R,S⟩⟩,⟨l.os,l.tape,l.output,l.size,fun k hk _=>l.block k hk (by simp)⟩,QV M⟩
theorem cd{K:Act->World->Prop}{E:Prop}(O:I.guard=none)(s x:Operand)(t:TypeId)(v:I.op=Op.call { callee:=Callee.builtin Builtin.append,args:=#[s,x],argTypes:=#[t,t] })(i:TypeInfo)(z:Value)(d:Nat)(h:Hd)(r:dN)(A:L.underlying t=some (.slice r.e))(B:L.info? r.e=some i)(C:i.zero=some z)(D:i.size=r.size)(F:i.bytes=d)(G:z.cells.size=r.size)(H:0<r.size)(R:M.eval s=.slice h.ao r.n h.cap)(k:aw b h r)(p:Addr)(m c:Nat)(a:List Value)(T:M.eval x=.slice (some p) m c)(Q:a.length=m*r.size)(N:∀j u,a[j]?=some u->b.cell? (p.add j)=some u)(q:∀u∈a,u.oneCell'=true)(P:0<m)(w:r.n+m<=maxLen)(y:(r.n+m)*d<=140737488355328)(J:∀g f o,aw o ⟨some ⟨g,0,none⟩,f⟩ ⟨r.e,r.size,r.n+m,r.xs++a⟩->b.grownBy o h.blk->(h.blk=some g∨b.heap.size<=g)->K (M.put I.dst (.slice (some ⟨g,0,none⟩) (r.n+m) f)) o) :
  if Region.wanted I (yielded y3 M.tmps)=true then Oper.wp L I M b K y7 else E:=by
 have S:Region.wanted I (yielded y3 M.tmps)=true:=by simp[Region.wanted,O]
 rw[QW S];obtain⟨g,f,o,l,U,V,W⟩:=pX (P:=L) b t I.type i z d h r A B C D F G H k p m c a Q N q P w y;unfold Oper.wp;simp[execOp,v,resolve,invoke,builtin,R,T,l,Result.andThen];exact J g f o U V W
theorem dB{P:Program}(t e:TypeId)(i:TypeInfo)(z:Value)(g:P.underlying t=some (.slice e))(d:P.info? e=some i)(h:i.zero=some z)(n a:Nat)(b:i.size=a)(c:i.bytes*n<=281474976710656)(j:n<=1073741824) :
  (Instr.makeSlice t (.int .i64 n) (.int .i64 n)).run P f=.ok (.slice (some ⟨f.heap.size,0,none⟩) n n) (f.alloc (.cells (madeCells z.cells (n*a)) e)):=by
 have:=run_make (P:=P) f t e i z g d h .i64 .i64 n n (by omega) (TJ _) (by have:=Int.ofNat_le.2 c;rw[Int.natCast_mul]at this;exact this) (by omega);simpa [b] using this
def iI(w:World)(x:Nat)(fs:Fs)(rep:Bool)(a b c:Value):Prop:=bi w x 80 fs [.bool rep,a,b,c]
def NO:Value:=.slice none 0 0
def jR(w:World)(x:Nat)(fs:Fs):Prop:=iI w x fs false NO NO NO
def li(w:World)(x:Nat)(fs:Fs):Prop:=∃rep a b c,iI w x fs rep a b c
theorem jR.anyR{a:Fs}(h:jR b l a):li b l a:=⟨_,_,_,_,h⟩
theorem iI.anyR{a:Fs}(h:iI b l a z4 g zt y0):li b l a:=⟨_,_,_,_,h⟩
theorem jR.kept{a:Fs}(h:jR b l a)(k:ab y b x)(c:l∉y):jR x l a:=bi.kept h k c
theorem li.kept{d:Fs}(h:li b l d)(k:ab y b x)(f:l∉y):li x l d:=by
 obtain⟨r,a,e,c,h⟩:=h;exact⟨r,a,e,c,bi.kept h k f⟩
theorem li.lt{d:Fs}(h:li b l d):l<b.heap.size:=by
 obtain⟨r,a,e,c,h⟩:=h;exact bi.lt h
theorem iI.cells{a:Fs}(h:iI b l a z4 g zt y0) :
  b.cell? ⟨l,9,none⟩=some (.bool z4)/\b.cell? ⟨l,10,none⟩=some g/\b.cell? ⟨l,11,none⟩=some zt/\b.cell? ⟨l,12,none⟩=some y0:=by
 refine⟨?_,?_,?_,?_⟩ <;> (rw[aa h.1];rfl)
def Dh(w:World)(x:Nat)(rep:Bool)(a b c:Value):World:=(((w.setCell ⟨x,9,none⟩ (.bool rep)).setCell ⟨x,10,none⟩ a).setCell ⟨x,11,none⟩ b).setCell ⟨x,12,none⟩ c
theorem iI.turn{f:Fs}(h:iI b l f z4 g zt y0)(a:Bool)(c d e:Value):iI (Dh b l a c d e) l f a c d e:=by
 refine⟨?_,h.2⟩;unfold Dh;rw[ah (ah (ah (ah h.1 9 (.bool a)) 10 c) 11 d) 12 e];rfl
theorem Fv(h:ab y b x)(d:l∈y∨b.heap.size<=l)(e:Bool)(a f c:Value):ab y b (Dh x l e a f c) :=
 (((h.setCell d _).setCell d _).setCell d _).setCell d _
theorem NN:Calls prog 27 #[] f fun e a=>e=.returned (.pointer (some ⟨f.heap.size,0,none⟩))/\jR a f.heap.size []/\ab [] f a:=by
 go_enter func27,ntmps27;go_wp2;go_ret;exact⟨rfl,⟨QS _ _,by simp⟩,(ab.refl _ _).alloc _⟩
theorem vW(f:Fs)(w:World)(h:li w H f) :
  Calls prog 33 #[.pointer (some ⟨H,0,none⟩)] w fun e g=>e=.returned (.tuple #[])/\jR g H f/\ab [H] w g:=by
 obtain⟨m,a,b,c,h⟩:=h;obtain⟨n,i,j,k⟩:=h.cells;have o:=bi.free h;have d:Hid _:=h.turn false (.slice none 0 0) (.slice none 0 0) (.slice none 0 0);unfold Dh at d;have l:=bi.lt h;go_enter func33,ntmps33;go_wp2;go_end0;exact⟨rfl,d.out,Fv (ab.refl _ _) (Q1 (by simp)) _ _ _ _⟩
theorem MS(f:Fs)(j:World)(h:li j T f)(v:n.size<=1073741824)(t:w.size<=4294967296) :
  Calls prog 14 #[.pointer (some ⟨T,0,none⟩),.string n,.string w] j fun e o=>e=.returned (.int .i64 (fc f n w).1)/\li o T (fc f n w).2/\((fc f n w).1=0->jR o T (fc f n w).2)/\ab [T] j o:=by
 obtain⟨i,a,b,c,h⟩:=h;have p:=GE T 80 n w f [.bool i,a,b,c] j h v t;have d:Hid _:=p;clear p;generalize fc f n w=x at *;obtain⟨s,k⟩:=x;simp only at d ⊢
 cases u:(s==0)
 ·go_enter func14,ntmps14
  go_wp2_with fail;refine QU d.out ?_;rintro e r ⟨rfl,l,g⟩;go_wp2;go_ret;exact⟨rfl,⟨i,a,b,c,l⟩,fun e=>by subst e;simp at u,g⟩
 ·go_enter func14,ntmps14
  go_wp2_with fail;refine QU d.out ?_;rintro e r ⟨rfl,l,g⟩;go_wp2_with fail;refine(vW T k r ⟨i,a,b,c,l⟩).mono ?_;rintro e y ⟨rfl,q,m⟩;go_wp2;go_ret;exact⟨rfl,q.anyR,fun _=>q,g.trans m⟩
def dJ(f:Nat->Int):Nat->Int
 | 0=>0
 | n+1=>if(dJ f n==0)=true then f n else dJ f n
theorem ou{n:Nat}(a:dJ z6 l=0)(h:(z6 l==0)=false)(c:l<n):dJ z6 n=z6 l:=by
 induction n with
 | zero=>omega
 | succ n b =>
  rw[dJ]
  by_cases e:l=n
  ·subst e;rw[a];rfl
  ·rw[b (by omega),QT (by rw[h];simp)]
def Dx(fs:Fs)(i:Nat):Int:=if(cJ (aE fs i) (ak fs i)==0)=false then cJ (aE fs i) (ak fs i) else if 0<=bF (fs.take i) (aE fs i) then 4 else 0
def dy(fs:Fs):Int:=if 4<fs.length then 1 else dJ (Dx fs) fs.length
def jt(fs0 fs:Fs):Fs:=if dy fs=0 then fs else fs0
theorem pM{fs0 a:Fs}(h:dy a=y2)(b:y2≠0):jt fs0 a=fs0:=by unfold jt;rw[QT (by rw[h];exact b)]
theorem yO{fs0 a:Fs}(h:dy a=0):jt fs0 a=a:=by unfold jt;rw[QW h]
theorem Ph{n:Nat}(h:dJ z6 n=0):∀i,i<n->z6 i=0:=by
 induction n with
 | zero=>intro i b;omega
 | succ n c =>
  rw[dJ]at h
  split at h
  ·next a =>
   intro i b
   by_cases e:i=n
   ·rw[e];exact h
   ·exact c (TR a) i (by omega)
  ·next a=>rw[h]at a;exact absurd rfl a
theorem NL{a:Fs}(h:dy a=0):a.length<=4/\∀j,j<a.length->(ak a j).size<=1024:=by
 unfold dy at h
 split at h
 ·cases h
 ·refine⟨by omega,fun j c=>?_⟩
  have b:=Ph h j c;unfold Dx at b
  split at b
  ·next e=>rw[b]at e;cases e
  ·next e =>
   unfold cJ at e
   split at e
   ·exact absurd rfl e
   ·split at e
    ·exact absurd rfl e
    ·omega
def ld(fs:Fs):Prop:=∀j,(aE fs j).size<=1073741824/\(ak fs j).size<=1073741824
theorem zZ:(prog.info? 68).map (fun i=>(i.zero,i.size,i.bytes))=some (some (.agg #[.string ⟨#[]⟩,.string ⟨#[]⟩]),2,32):=by kernel_rfl
def Ou(f:ByteArray×ByteArray):List Value:=[.string f.1,.string f.2]
def qK(fs:Fs):List Value:=fs.flatMap Ou
def cr(fs:Fs):dN:=⟨68,2,fs.length,qK fs⟩
theorem vn(a:Fs):(qK a).length=a.length*2:=by
 induction a with
 | nil=>rfl
 | cons t L b=>rw[qK,RI,Q0,show L.flatMap Ou=qK L from rfl,b];simp[Ou];omega
theorem v9(b:Fs)(j:Nat)(h:j<b.length):(qK b)[j*2]?=some (.string (aE b j))/\(qK b)[j*2+1]?=some (.string (ak b j)):=by
 induction b generalizing j with
 | nil=>simp at h
 | cons a L f =>
  have e:qK (a :: L)=.string a.1 :: .string a.2 :: qK L:=rfl
  cases j with
  | zero=>exact⟨rfl,rfl⟩
  | succ j =>
   obtain⟨c,d⟩:=f j (by simpa using h);rw[e,show(j+1)*2=j*2+1+1 by omega];exact⟨c,d⟩
theorem Gk(b:Fs)(k:Nat)(n d:ByteArray)(h:k<b.length):((qK b).set (k*2) (.string n)).set (k*2+1) (.string d)=qK (b.set k (n,d)):=by
 induction b generalizing k with
 | nil=>simp at h
 | cons a L c =>
  have e:∀x:ByteArray×ByteArray,qK (x :: L)=.string x.1 :: .string x.2 :: qK L:=fun _=>rfl
  cases k with
  | zero=>rfl
  | succ k =>
   rw[SB,show(k+1)*2=k*2+1+1 by omega,e]
   show _=Value.string a.1 :: Value.string a.2 :: qK (L.set k (n,d))
   rw[<-c k (by simpa using h)];rfl
theorem wX(a:Fs)(t:ByteArray×ByteArray):(⟨(cr a).e,(cr a).size,(cr a).n+1,(cr a).xs++Ou t⟩:dN)=cr (a++[t]):=by
 simp[cr,qK]
theorem Gj(a:Fs):∀u∈qK a,u.oneCell'=true:=by
 intro u b;obtain⟨x,-,h⟩:=TT.1 b;unfold Ou at h;simp only[List.mem_cons,List.not_mem_nil,or_false]at h
 rcases h with rfl | rfl <;> rfl
structure It where
 B:List Nat
 P:World->Prop
 lt:∀w,P w->∀b,b∈B->b<w.heap.size
 ok:∀S w w',P w->ab S w w'->(∀b,b∈B->b∉S)->P w'
def fk(I:Nat×Nat->It)(k:Nat×Nat)(it:It):Nat×Nat->It:=fun q=>if q=k then it else I q
theorem bJ(I:Nat×Nat->It)(k:Nat×Nat)(a:It):fk I k a k=a:=by unfold fk;rw[QW rfl]
theorem aq(I:Nat×Nat->It)(a:It)(h:z7≠y1):fk I y1 a z7=I z7:=by unfold fk;rw[QT h]
theorem bn(h:l≠y4):((l,S):Nat×Nat)≠(y4,y5):=fun e=>h (by cases e;rfl)
theorem rC(h:S≠y5):((l,S):Nat×Nat)≠(y4,y5):=fun e=>h (by cases e;rfl)
structure nJ(w:World)(I:Nat×Nat->It):Prop where
 all:∀k,(I k).P w
 far:∀k k',k≠k'->∀b,b∈(I k).B->b∉(I k').B
theorem nJ.Vb{I:Nat×Nat->It}(h:nJ b I)(k:ab [] b x):nJ x I :=
 ⟨fun q=>(I q).ok [] b x (h.all q) k (fun _ _ a=>by cases a),h.far⟩
theorem nJ.put{I:Nat×Nat->It}(h:nJ b I)(k:Nat×Nat)(f:It)(K:ab (I k).B b x)(n:f.P x)(m:∀a,a∈f.B->a∈(I k).B∨b.heap.size<=a):nJ x (fk I k f):=by
 refine⟨fun q=>?_,fun q g j a c d=>?_⟩
 ·by_cases e:q=k
  ·subst e;rw[bJ];exact n
  ·rw[aq I f e]
   exact(I q).ok _ b x (h.all q) K (fun a c=>h.far q k e a c)
 ·by_cases e:q=k
  ·subst e
   rw[bJ]at c;rw[aq I f (Ne.symm j)]at d
   rcases m a c with i | i
   ·exact h.far q g j a i d
   ·have:=(I g).lt b (h.all g) a d;omega
  ·rw[aq I f e]at c
   by_cases l:g=k
   ·subst l
    rw[bJ]at d
    rcases m a d with i | i
    ·exact h.far q g j a c i
    ·have:=(I q).lt b (h.all q) a c;omega
   ·rw[aq I f l]at d
    exact h.far q g j a c d
theorem nJ.put2{I:Nat×Nat->It}(h:nJ b I)(d e:Nat×Nat)(C:d≠e)(k l:It)(K:ab ((I d).B++(I e).B) b x)(E:k.P x)(F:l.P x)(z:∀a,a∈k.B->a∈(I d).B∨b.heap.size<=a)(A:∀a,a∈l.B->a∈(I e).B∨b.heap.size<=a)(w:∀a,a∈k.B->a∉l.B):nJ x (fk (fk I d k) e l):=by
 have f:∀q,q≠d->q≠e->∀a,a∈(I q).B->a∉k.B/\a∉l.B:=fun q g c a n=>by
  have:=(I q).lt b (h.all q) a n;refine⟨fun v=>?_,fun v=>?_⟩
  ·rcases z a v with r | r
   ·exact h.far q d g a n r
   ·omega
  ·rcases A a v with r | r
   ·exact h.far q e c a n r
   ·omega
 have t:fk (fk I d k) e l d=k:=by rw[aq _ _ C,bJ]
 have u:fk (fk I d k) e l e=l:=bJ _ _ _;have p:∀q,q≠d->q≠e->fk (fk I d k) e l q=I q:=fun q g c=>by rw[aq _ _ c,aq _ _ g]
 refine⟨fun q=>?_,fun q j s a g c=>?_⟩
 ·by_cases m:q=d
  ·subst m;rw[t];exact E
  ·by_cases i:q=e
   ·subst i;rw[u];exact F
   ·rw[p q m i]
    exact(I q).ok _ b x (h.all q) K (fun a n D=>(Rr.1 D).elim (h.far q d m a n) (h.far q e i a n))
 ·by_cases m:q=d
  ·subst m
   rw[t]at g
   by_cases i:j=e
   ·subst i;rw[u]at c;exact w a g c
   ·rw[p j (Ne.symm s) i]at c;exact(f j (Ne.symm s) i a c).1 g
  ·by_cases i:q=e
   ·subst i
    rw[u]at g
    by_cases o:j=d
    ·subst o;rw[t]at c;exact w a c g
    ·rw[p j o (Ne.symm s)]at c;exact(f j o (Ne.symm s) a c).2 g
   ·rw[p q m i]at g
    by_cases o:j=d
    ·subst o;rw[t]at c;exact(f q m i a g).1 c
    ·by_cases y:j=e
     ·subst y;rw[u]at c;exact(f q m i a g).2 c
     ·rw[p j o y]at c;exact h.far q j s a g c
theorem nJ.off{I:Nat×Nat->It}(h:nJ b I)(c:y1≠z7)(a:l∈(I y1).B):l∉(I z7).B:=h.far y1 z7 c l a
structure Tk where
 s:ByteArray
 rule:Int
 file:ByteArray
 line:Int
 col:Int
def AV(t:Tk):List Value:=[.string t.s,.int .i64 t.rule,.string t.file,.int .i64 t.line,.int .i64 t.col]
def PI(L:List Tk):List Value:=L.flatMap AV
def ir(L:List Tk):dN:=⟨138,5,L.length,PI L⟩
theorem Py(L:List Tk)(j:Nat)(t:Tk)(h:L[j]?=some t)(c:Nat)(d:c<5):(PI L)[j*5+c]?=(AV t)[c]?:=by
 induction L generalizing j with
 | nil=>cases h
 | cons a L b =>
  have e:PI (a :: L)=AV a++PI L:=rfl
  cases j with
  | zero =>
   simp at h;subst h;rw[e,Q7 (by simp[AV];omega)];simp
  | succ j =>
   rw[e,Q5 (by simp[AV];omega),show(j+1)*5+c-(AV a).length=j*5+c by simp[AV];omega];exact b j (by simpa using h)
theorem za(L:List Tk)(t:Tk):(⟨(ir L).e,(ir L).size,(ir L).n+1,(ir L).xs++AV t⟩:dN)=ir (L++[t]):=by
 simp[ir,PI]
def di(d:ByteArray):Nat->Nat
 | 0=>0
 | i+1=>if cO (aF d i)=true then i+1 else di d i
def me(nm d:ByteArray)(s:ByteArray)(r:Int)(k:Nat):Tk:=⟨s,r,nm,aP d k,bm d k⟩
def je(nm d:ByteArray)(a z:Nat)(L:List Tk):List Tk:=if a=z then L else L++[me nm d (d.extract a z) 0 a]
def jd(nm d:ByteArray):Nat->List Tk
 | 0=>[]
 | i+1=>if cO (aF d i)=true then je nm d (di d i) i (jd nm d i) else jd nm d i
def qH(n:Int):Bool:=!fn n && !cO n
def jF(d:ByteArray):Option Nat:=(List.range d.size).find? (fun i=>qH (aF d i))
def ij(nm d:ByteArray):List Tk:=match jF d with
 | some i=>jd nm d i++[me nm d ⟨#[]⟩ 1 i]
 | none=>je nm d (di d d.size) d.size (jd nm d d.size)++[me nm d ⟨#[]⟩ 0 d.size]
theorem oh(i:Nat):di w i<=i:=by
 induction i with
 | zero=>exact QR _
 | succ i a=>rw[di];split <;> omega
theorem uv(L:List Tk):(je n w v H L).length<=L.length+1:=by
 unfold je;split <;> simp
theorem xu(i:Nat):(jd n w i).length<=i:=by
 induction i with
 | zero=>exact QR _
 | succ i a =>
  rw[jd]
  split
  ·have:=uv n w (di w i) i (jd n w i);omega
  ·omega
theorem zv:(ij n w).length<=w.size+2:=by
 unfold ij
 split
 ·next i h =>
  have:=Ra.1 (Rz h);have:=xu n w i;simp;omega
 ·have:=uv n w (di w w.size) w.size (jd n w w.size)
  have:=xu n w w.size;simp;omega
def rO(s u:ByteArray)(i:Nat):Bool:=((s.extract i (i+u.size)).toList==u.toList)
def ii(s u:ByteArray):Bool:=(List.range (s.size+1)).any (fun i=>decide (i+u.size<=s.size)&&rO s u i)
def Dw(t:ByteArray)(l:List UInt8):Bool:=(t.toList==l)
def bQ:Bool->List Tk->List Tk
 | _,[]=>[]
 | false,t :: r=>if Dw t.s [36,40]=true then bQ true r else t :: bQ false r
 | true,t :: r =>
  if(t.rule==0)=false then t :: bQ true r
  else if Dw t.s [36,41]=true then bQ false r
  else if Dw t.s []=true then⟨⟨#[]⟩,3,t.file,t.line,t.col⟩ :: bQ true r
  else if(ii t.s ⟨#[36,40]⟩||ii t.s ⟨#[36,41]⟩)=true then [⟨⟨#[]⟩,2,t.file,t.line,t.col⟩]
  else bQ true r
theorem KH(b:Bool)(L:List Tk):(bQ b L).length<=L.length:=by
 induction L generalizing b with
 | nil=>cases b <;> simp[bQ]
 | cons t L a =>
  have c:=a true;have d:=a false
  cases b
  ·rw[bQ];split <;> simp <;> omega
  ·rw[bQ]
   repeat' split
   all_goals (simp;try omega)
def kR(w:World)(ao:Option Addr)(fs:Fs):Prop:=∀k,k<fs.length->∃g o,ao=some ⟨g,o,none⟩/\g<w.heap.size/\w.cell? ⟨g,o+k*2,none⟩=some (.string (aE fs k))/\w.cell? ⟨g,o+k*2+1,none⟩=some (.string (ak fs k))
theorem kR.kept{c:Fs}(h:kR b zb c)(k:ab y b x)(m:∀a,zb=some a->a.block∉y):kR x zb c:=by
 intro j n;obtain⟨g,o,e,d,f,l⟩:=h j n;have q:∀i,x.cell? ⟨g,i,none⟩=b.cell? ⟨g,i,none⟩:=fun i=>Q6 (k.block g d (m _ e))
 exact⟨g,o,e,QX d k.size,by rw[q];exact f,by rw[q];exact l⟩
theorem Nt(a:Fs)(k:Nat)(h:k<a.length):a.take k++[(aE a k,ak a k)]=a.take (k+1):=by
 rw[Td,QP h];unfold aE ak;rw[QQ,QP h];rfl
def Dg(w:World)(v:Nat)(fs:Fs):World:=((((((((w.setCell ⟨v,0,none⟩ (.string (aE fs 0))).setCell ⟨v,1,none⟩ (.string (ak fs 0))).setCell ⟨v,2,none⟩ (.string (aE fs 1))).setCell ⟨v,3,none⟩ (.string (ak fs 1))).setCell ⟨v,4,none⟩ (.string (aE fs 2))).setCell ⟨v,5,none⟩ (.string (ak fs 2))).setCell ⟨v,6,none⟩ (.string (aE fs 3))).setCell ⟨v,7,none⟩ (.string (ak fs 3))).setCell ⟨v,8,none⟩ (.int .i64 fs.length)
theorem MB(c a:Fs)(b:List Value):(((((((((oX c++b).set 0 (.string (aE a 0))).set 1 (.string (ak a 0))).set 2 (.string (aE a 1))).set 3 (.string (ak a 1))).set 4 (.string (aE a 2))).set 5 (.string (ak a 2))).set 6 (.string (aE a 3))).set 7 (.string (ak a 3))).set 8 (.int .i64 a.length)=oX a++b:=rfl
theorem bi.over{c a:Fs}(h:bi b l S c i)(d:a.length<=4):bi (Dg b l a) l S a i:=by
 refine⟨?_,d⟩;unfold Dg;rw[ah (ah (ah (ah (ah (ah (ah (ah (ah h.1 0 _) 1 _) 2 _) 3 _) 4 _) 5 _) 6 _) 7 _) 8 _];simp only[List.setIfInBounds_toArray,MB]
theorem Fu(h:ab y b x)(a:l∈y∨b.heap.size<=l)(c:Fs):ab y b (Dg x l c) :=
 ((((((((h.setCell a _).setCell a _).setCell a _).setCell a _).setCell a _).setCell a _).setCell a _).setCell a _).setCell a _
theorem bi.nine{a:Fs}(h:bi b l S a i) :
  b.cell? ⟨l,0,none⟩=some (.string (aE a 0))/\b.cell? ⟨l,1,none⟩=some (.string (ak a 0))/\b.cell? ⟨l,2,none⟩=some (.string (aE a 1))/\b.cell? ⟨l,3,none⟩=some (.string (ak a 1))/\b.cell? ⟨l,4,none⟩=some (.string (aE a 2))/\b.cell? ⟨l,5,none⟩=some (.string (ak a 2))/\b.cell? ⟨l,6,none⟩=some (.string (aE a 3))/\b.cell? ⟨l,7,none⟩=some (.string (ak a 3))/\b.cell? ⟨l,8,none⟩=some (.int .i64 a.length):=by
 refine⟨?_,?_,?_,?_,?_,?_,?_,?_,?_⟩ <;> (rw[aa h.1];rfl)
set_option maxRecDepth 100000
theorem IJ(b a:Fs)(c:List Value)(X:Option Addr)(Y:Nat)(w:World)(h:bi w v H b c)(hS:kR w X a)(J:ld a) :
  Calls prog 48 #[.pointer (some ⟨v,0,none⟩),.slice X a.length Y] w fun e j=>e=.returned (.int .i64 (dy a))/\bi j v H (jt b a) c/\ab [v] w j:=by
 have K:Hid (bi w v H b c):=h
 by_cases h4:4<a.length
 ·have z:Hid (dy a=1):=by show _=_;unfold dy;rw[QW h4]
  have P:Hid _:=(pM (fs0:=b) z.out (by decide));rw[z.out];have ac:(4:Int)<(a.length:Int):=by omega
  clear h;go_enter func48,ntmps48;go_wp2;go_ret;exact⟨rfl,by rw[P.out];exact K.out,ab.refl _ _⟩
 ·have z:Hid (dy a=dJ (Dx a) a.length):=by show _=_;unfold dy;rw[QT h4]
  obtain⟨r,L⟩:∃r,Hid (dy a=r):=⟨_,rfl⟩
  rw[L.out]at z ⊢;have ac:¬(4:Int)<(a.length:Int):=by omega
  have HS:Hid (kR w X a):=hS;have D:Hid _:=J;have ar:v<w.heap.size:=h.lt;obtain⟨W,R⟩:∃W,Hid (w.alloc (.cells #[.string ⟨#[]⟩,.string ⟨#[]⟩,.string ⟨#[]⟩,.string ⟨#[]⟩,.string ⟨#[]⟩,.string ⟨#[]⟩,.string ⟨#[]⟩,.string ⟨#[]⟩,.int .i64 0] 73)=W):=⟨_,rfl⟩
  have O:Hid (ab [] w W):=by show ab _ _ _;rw[<-R.out];exact(ab.refl [] _).alloc _
  have Q:Hid (bi W w.heap.size 73 (a.take 0) []):=by show bi _ _ _ _ _;rw[<-R.out];exact⟨QS _ _,by simp⟩
  clear h hS J;go_enter func48,ntmps48
  go_upto_region 4 with fail
  rw[R.out];go_wp2
  go_loopg [6] a.length (fun g iv wr=>∃k:Nat,k<=a.length/\g=a.length-k/\iv=.int .i64 k/\Hid (dJ (Dx a) k=0)/\Hid (bi wr w.heap.size 73 (a.take k) [])/\Hid (ab [] w wr))
  case atStart=>exact⟨0,by omega,rfl,rfl,rfl,Q,O⟩
  case round =>
   obtain⟨k,hk,hg,rfl,T,o,u⟩:=hrel
   by_cases t:k<a.length
   ·have an:(k:Int)<(a.length:Int):=by omega
    obtain⟨G,o0,rfl,s,c0,c1⟩:=(kR.kept HS.out u.out (by simp)) k t;have HC:Hid (∀j,ab [] wr j->j.cell? ⟨G,o0+k*2,none⟩=some (.string (aE a k))/\j.cell? ⟨G,o0+k*2+1,none⟩=some (.string (ak a k))/\G<j.heap.size):=fun j kw=>⟨by rw[Q6 (kw.block G s (by simp))];exact c0,by rw[Q6 (kw.block G s (by simp))];exact c1,QX s kw.size⟩
    have B:Hid (∀d,Calls prog 49 #[.string (aE a k),.string (ak a k)] d fun e j=>e=.returned (.int .i64 (cJ (aE a k) (ak a k)))/\j=d):=fun d=>nM _ _ d (D.out k).1 (by have:=(D.out k).2;omega)
    have x:Hid (∀d,bi d w.heap.size 73 (a.take k) []->Calls prog 50 #[.pointer (some ⟨w.heap.size,0,none⟩),.string (aE a k)] d fun e j=>e=.returned (.int .i64 (bF (a.take k) (aE a k)))/\j=d):=fun d hx=>lN _ _ _ _ _ d hx
    have hl:(a.take k).length=k:=by rw[RQ];omega
    have M:Hid (∀d,bi d w.heap.size 73 (a.take k) []->Calls prog 51 #[.pointer (some ⟨w.heap.size,0,none⟩),.agg #[.string (aE a k),.string (ak a k)]] d fun e j=>e=.returned (.tuple #[])/\bi j w.heap.size 73 (a.take (k+1)) []/\ab [w.heap.size] d j):=fun d hx=>by
     rw[<-Nt a k t];exact FX _ _ _ _ _ _ d hx (by rw[hl];omega)
    have l:Hid (Dx a k=if(cJ (aE a k) (ak a k)==0)=false then cJ (aE a k) (ak a k) else if 0<=bF (a.take k) (aE a k) then 4 else 0):=rfl;have C:Hid ((Dx a k==0)=false->r=Dx a k):=fun q=>by rw[z.out];exact ou T.out q t
    have N:Hid (Dx a k=0->dJ (Dx a) (k+1)=0):=fun q=>by rw[dJ,T.out];exact q
    clear hl;generalize aE a k=nm at *;generalize ak a k=dt at *;obtain⟨F,U⟩:∃F,Hid (cJ nm dt=F):=⟨_,rfl⟩
    rw[U.out]at B l;obtain⟨Z,V⟩:∃Z,Hid (bF (a.take k) nm=Z):=⟨_,rfl⟩
    rw[V.out]at x l
    go_upto_region 7 with fail
    go_region_with (go_at_call 49;refine(B.out _).mono ?_;rintro e A ⟨rfl,ai⟩)
    all_goals
     subst ai;obtain⟨A,H9⟩:∃A,Hid (wr.drew=A):=⟨_,rfl⟩
     rw[H9.out];have f:Hid (ab [] wr A):=by show ab _ _ _;rw[<-H9.out];exact(ab.refl [] wr).drew
     clear c0 c1 s
     cases i:(F==0)
     ·rw[i,QW rfl]at l
      have n:Hid _:=(C.out (by rw[l.out];exact i));rw[l.out]at n;have ad:(F != 0)=true:=by unfold bne;rw[i];rfl
      go_wp2;go_ret;exact⟨QN n.out.symm,by rw[pM (L.out.trans n.out) (fun q=>by rw[q]at i;cases i)];exact bi.kept K.out (u.out.trans f.out) (by simp),(u.out.trans f.out).mono (by simp)⟩
     ·rw[i,QT (by simp)]at l
      have ad:(F != 0)=false:=by unfold bne;rw[i];rfl
      obtain⟨d0,d1,d2⟩:=HC.out A f.out;have y:Hid (bi A w.heap.size 73 (a.take k) []):=bi.kept o.out f.out (by simp)
      by_cases I:0<=Z
      ·rw[QW I]at l
       have n:Hid _:=(C.out (by rw[l.out];rfl));rw[l.out]at n;go_wp2_with (go_at_call 50;refine(x.out _ y.out).mono ?_;rintro e w8 ⟨rfl,m⟩;rw[m];clear m);go_ret;exact⟨QN n.out.symm,by rw[pM (L.out.trans n.out) (by decide)];exact bi.kept K.out (u.out.trans f.out) (by simp),(u.out.trans f.out).mono (by simp)⟩
      ·rw[QT I]at l
       have HM:Hid _:=N.out l.out
       go_upto_region 12 with (go_at_call 50;refine(x.out _ y.out).mono ?_;rintro e w8 ⟨rfl,m⟩;rw[m];clear m)
       go_wp2_with (go_at_call 51;refine(M.out _ y.out).mono ?_;rintro e w8 ⟨rfl,ag,af⟩)
       go_roundg (a.length-(k+1))
       case measure=>omega
       case rel=>exact⟨k+1,by omega,rfl,by go_num,HM,ag,((u.out.trans f.out).mono (S':=[w.heap.size]) (by simp)).trans af |>.mono (fun q hq t=>by simp at hq;omega)⟩
   ·have e:k=a.length:=by omega
    subst e;have n:Hid (r=0):=by show _=_;rw[z.out];exact T.out
    have ap:¬(a.length:Int)<(a.length:Int):=by omega
    rw[RK]at o;obtain⟨q0,q1,q2,q3,q4,q5,q6,q7,q8⟩:=bi.nine o.out;have ax:=bi.lt o.out;have p:Hid (bi wr v H b c):=bi.kept K.out u.out (by simp);obtain⟨p0,p1,p2,p3,p4,p5,p6,p7,p8⟩:=bi.nine p.out;have al:=bi.free p.out;have az:=bi.lt p.out;have E:Hid (bi (Dg wr v a) v H a c):=bi.over p.out (by omega);unfold Dg at E;have S:Hid _:=yO (fs0:=b) (L.out.trans n.out);go_wp2;go_ret;exact⟨QN n.out.symm,by rw[S.out];exact E.out,Fu (u.out.mono (by simp)) (Q1 (by simp)) _⟩
def Qz(w':World)(x:Nat)(fs0 fs:Fs)(rep:Bool)(a b c:Value):Prop:=(dy fs=0->jR w' x (jt fs0 fs))/\(dy fs≠0->iI w' x (jt fs0 fs) rep a b c)
set_option maxRecDepth 512
theorem J8(d g:Fs)(f:Bool)(a b c:Value)(l:Option Addr)(k:Nat)(w:World)(h:iI w H d f a b c)(v:kR w l g)(q:ld g) :
  Calls prog 30 #[.pointer (some ⟨H,0,none⟩),.slice l g.length k] w fun e r=>e=.returned (.int .i64 (dy g))/\Qz r H d g f a b c/\ab [H] w r:=by
 unfold Qz;have j:Hid _:=IJ H 80 d g [.bool f,a,b,c] l k w h v q;generalize dy g=t at *;generalize jt d g=m at *
 cases o:(t==0)
 ·go_enter func30,ntmps30
  go_wp2_with (go_at_call 48;refine QU j.out ?_;rintro e s ⟨rfl,n,i⟩);go_ret;exact⟨rfl,⟨(fun e=>by rw[e]at o;cases o),fun _=>n⟩,i⟩
 ·go_enter func30,ntmps30
  go_upto_region 3 with (go_at_call 48;refine QU j.out ?_;rintro e s ⟨rfl,n,i⟩)
  go_wp2_with (go_at_call 33;refine(vW H m s ⟨f,a,b,c,n⟩).mono ?_;rintro e x ⟨rfl,u,p⟩);go_ret;exact⟨rfl,⟨fun _=>u,fun e=>absurd (TR o) e⟩,i.trans p⟩
theorem Oi(f:Fs)(d:Bool)(a b c:Value)(i:World)(h:iI i T f d a b c)(r:n.size<=1073741824)(q:w.size<=4294967296)(k:(fc f n w).1≠0) :
  Calls prog 14 #[.pointer (some ⟨T,0,none⟩),.string n,.string w] i fun e l=>e=.returned (.int .i64 (fc f n w).1)/\iI l T (fc f n w).2 d a b c/\ab [T] i l:=by
 have g:Hid _:=GE T 80 n w f [.bool d,a,b,c] i h r q;generalize fc f n w=s at *;obtain⟨m,o⟩:=s;simp only at g k ⊢;have t:(m==0)=false:=Rh.2 k;clear k;go_enter func14,ntmps14;go_wp2_with (go_at_call 32;refine QU g.out ?_;rintro e u ⟨rfl,p,j⟩);go_ret;exact⟨rfl,p,j⟩
theorem Dn(f:Fs)(n:ByteArray)(d:Bool)(a b c:Value)(w:World)(h:iI w H f d a b c)(A:bF f n<0) :
  Calls prog 36 #[.pointer (some ⟨H,0,none⟩),.string n] w fun e l=>e=.returned (.tuple #[.agg #[.int .i64 0,.string ⟨#[]⟩,.int .i64 0,.int .i64 0],.int .i64 5])/\iI l H f d a b c/\ab [H] w l:=by
 have B:=bi.lt h;obtain⟨W,p⟩:∃W,Hid (w.alloc (.cells #[.int .i64 0,.string ⟨#[]⟩,.int .i64 0,.int .i64 0] 87)=W):=⟨_,rfl⟩
 have o:Hid (ab [] w W):=by show ab _ _ _;rw[<-p.out];exact(ab.refl [] _).alloc _
 have g:W.heap[w.heap.size]?=some (.cells #[.int .i64 0,.string ⟨#[]⟩,.int .i64 0,.int .i64 0] 87 (0,0)):=by rw[<-p.out];exact QS _ _
 have r:iI W H f d a b c:=bi.kept h o.out (by simp);obtain⟨q,j⟩:∃q,Hid (bF f n=q):=⟨_,rfl⟩
 rw[j.out]at A
 have m:Hid (Calls prog 50 #[.pointer (some ⟨H,0,none⟩),.string n] W fun e l=>e=.returned (.int .i64 q)/\l=W):=by
  show Calls _ _ _ _ _
  rw[<-j.out];exact lN H _ f _ n W r
 have C:W.cell? ⟨w.heap.size,0,none⟩=some (.int .i64 0):=by rw[aa g];rfl
 have D:W.cell? ⟨w.heap.size,1,none⟩=some (.string ⟨#[]⟩):=by rw[aa g];rfl
 have E:W.cell? ⟨w.heap.size,2,none⟩=some (.int .i64 0):=by rw[aa g];rfl
 have F:W.cell? ⟨w.heap.size,3,none⟩=some (.int .i64 0):=by rw[aa g];rfl
 have I:=am g;have z:=ae g;have i:Hid (∀s t u x,ab [] w ((((W.setCell ⟨w.heap.size,0,none⟩ s).setCell ⟨w.heap.size,1,none⟩ t).setCell ⟨w.heap.size,2,none⟩ u).setCell ⟨w.heap.size,3,none⟩ x)):=fun s t u x=>(((o.out.setCell (QV (QR _)) _).setCell (QV (QR _)) _).setCell (QV (QR _)) _).setCell (QV (QR _)) _
 have y:Hid (iI w H f d a b c):=h;clear h r g o;go_enter func36,ntmps36
 go_upto_region 1 with fail
 rw[p.out];go_wp2_with (go_at_call 50;refine QU m.out ?_;rintro e G ⟨rfl,k⟩;rw[k];clear k);exact QY (v:=.tuple #[.agg #[.int .i64 0,.string ⟨#[]⟩,.int .i64 0,.int .i64 0],.int .i64 5]) (by simp[results,results36,go_sem,C,D,E,F]) rfl ⟨rfl,bi.kept y.out (i.out _ _ _ _) (by simp),(i.out _ _ _ _).mono (by simp)⟩
def qB(c:Int):Prop:=-9223372036854775808<=c/\c<=9223372036854775807
def eG(c:Int)(n:Nat):Nat:=((if c<0 then -(c+1) else c).tmod n).toNat
theorem fY(c:1<=H):eG a H<H:=by
 unfold eG
 split
 ·have b:0<=(-(a+1)).tmod H/\(-(a+1)).tmod H<H:=⟨Ut _ (by omega),Ua _ (by omega)⟩
  omega
 ·have b:0<=a.tmod H/\a.tmod H<H:=⟨Ut _ (by omega),Ua _ (by omega)⟩
  omega
theorem eQ(j:qB a)(q:1<=T/\T<=4294967296) :
  Calls prog 12 #[.int .i64 a,.int .i64 T] f fun e p=>e=.returned (.int .i64 (eG a T:Nat))/\p=f:=by
 obtain⟨k,l⟩:=j;have m:(1:Int)<=(T:Int):=by omega
 have n:(T:Int)<=4294967296:=by omega
 have o:((T:Int)==0)=false:=Rh.2 (by omega)
 by_cases h:a<0
 ·have b:0<=(-(a+1)).tmod T/\(-(a+1)).tmod T<T:=⟨Ut _ (by omega),Ua _ (by omega)⟩
  have d:Hid _:=b;have g:Hid (eG a T=((-(a+1)).tmod T).toNat):=by show _=_;unfold eG;rw[QW h]
  clear b;go_enter func12,ntmps12;go_wp2
  all_goals go_ret
  all_goals
   have b:=d.out;refine⟨QN ?_,rfl⟩;rw[g.out]
   first | (simp only[Int.neg_tmod]at *;omega) | (rw[Uw b.1])
 ·have b:0<=a.tmod T/\a.tmod T<T:=⟨Ut _ (by omega),Ua _ (by omega)⟩
  have c:a.tmod T=a % T:=Int.tmod_eq_emod_of_nonneg (by omega);have d:Hid _:=b;have i:Hid _:=c;have g:Hid (eG a T=(a.tmod T).toNat):=by show _=_;unfold eG;rw[QT h]
  clear b c;go_enter func12,ntmps12;go_wp2
  all_goals go_ret
  all_goals
   have b:=d.out;have c:=i.out;refine⟨QN ?_,rfl⟩;rw[g.out]
   first | (rw[Uw b.1];done) | (rw[Uw b.1,c])
theorem nC(f:Option Addr)(p q:Nat)(a:Fs)(w:World)(j:kR w z5 a)(l:kR w f a)(G:a.length<=4294967296) :
  Calls prog 26 #[.slice z5 a.length p,.slice f a.length q] w fun e t=>e=.returned (.bool true)/\∃n,t=w.drewN n:=by
 have m:Hid (kR w z5 a):=j;have o:Hid (kR w f a):=l;clear j l;go_enter func26,ntmps26;go_wp2
 go_loopg [5] a.length (fun g i wr=>∃k:Nat,k<=a.length/\g=a.length-k/\i=.int .i64 k/\Hid (∃n,wr=w.drewN n))
 case atStart=>exact⟨0,by omega,by omega,rfl,0,rfl⟩
 case round =>
  obtain⟨k,F,E,rfl,c⟩:=hrel;have h:Hid (ab [] w wr):=by show ab _ _ _;obtain⟨n,e⟩:=c.out;rw[e];exact(ab.refl [] w).drewN n
  by_cases b:k<a.length
  ·have r:(k:Int)<(a.length:Int):=by omega
   obtain⟨A,I,rfl,C,u,v⟩:=(kR.kept m.out h.out (by simp)) k b;obtain⟨B,J,rfl,D,x,y⟩:=(kR.kept o.out h.out (by simp)) k b;generalize aE a k=H at *;generalize ak a k=z at *
   go_upto_region 6 with fail
   go_quiet (fail)
   have d:Hid (∃n,wr.drewN nq=w.drewN n):=by show ∃_,_;obtain⟨n,e⟩:=c.out;exact⟨n+nq,by rw[e,Uf]⟩
   go_wp2
   go_roundg (a.length-(k+1))
   case measure=>omega
   case rel=>exact⟨k+1,by omega,rfl,by go_num,d⟩
  ·have s:¬(k:Int)<(a.length:Int):=by omega
   go_wp2;go_ret;exact⟨rfl,c.out⟩
theorem DQ{P:Program}(p E F:TypeId)(g l c n:Nat)(d:Option Addr)(r:dN)(a:Array Value)(t:TypeId)(D:P.underlying p=some (.slice r.e))(s:(P.info? r.e).map (·.size)=some r.size)(q:f.heap[g]?=some (.cells a t (0,0)))(B:r.n=n)(A:r.xs.length=r.n*r.size)(w:d=none->r.xs=[])(y:∀b,d=some b->∀j v,r.xs[j]?=some v->f.cell? (b.add j)=some v)(C:a.size=r.n*r.size)(x:∀v∈r.xs,v.oneCell'=true) :
  ∃k,(Builtin.copy_ #[p,E] F #[.slice (some ⟨g,0,none⟩) n l,.slice d n c]).run P f=.ok (goInt n) k/\k.heap[g]?=some (.cells r.xs.toArray t (0,0))/\ab [g] f k/\k.heap.size=f.heap.size:=by
 subst B;refine⟨f.setRow g r.xs.toArray,?_,setRow_heap f g _ _ t _ q,uJ (ab.refl _ _) (Q1 (by simp)) _,by simp[World.setRow]⟩;have h:=run_storeCells_at P g 0 t r.xs 0 a f q (by simp;omega) x
 have u:(a.toList.take (0+0)++r.xs++a.toList.drop (0+0+r.xs.length))=r.xs:=by
  simp;omega
 rw[u]at h
 have m:(Builtin.firstCells r.size r.n (.slice d r.n c)).run P f=.ok r.xs.toArray f:=by
  cases d with
  | none=>rw[w rfl];exact run_firstCells_none f _ _ _ _
  | some b=>exact run_firstCells_some f r.size r.n b r.n c r.xs A (y b rfl)
 cases o:P.info? r.e with
 | none=>simp[o]at s
 | some i =>
  have z:i.size=r.size:=by simpa [o] using s
  simp[Builtin.copy_,run_underlying D,Builtin.lenOf,sizeOf,typeInfo,o,z,m,h]
theorem kR.cells{c:Fs}(h:kR b zb c):(zb=none->qK c=[])/\∀i,zb=some i->∀j v,(qK c)[j]?=some v->b.cell? (i.add j)=some v:=by
 refine⟨fun e=>?_,fun i e j v f=>?_⟩
 ·cases c with
  | nil=>rfl
  | cons a L=>obtain⟨g,o,d,-⟩:=h 0 (by simp);rw[e]at d;cases d
 ·have q:j<c.length*2:=by
   rw[<-vn];exact(Q8.1 f).1
  obtain⟨g,o,d,-,k,l⟩:=h (j / 2) (by omega);rw[e]at d
  cases d
  obtain⟨m,n⟩:=v9 c (j / 2) (by omega);have p:(⟨g,o,none⟩:Addr).add j=⟨g,o+j,none⟩:=by simp[Addr.add]
  rw[p]
  rcases UB j with e | e
  ·rw[show o+j / 2*2=o+j by omega]at k
   rw[show j / 2*2=j by omega]at m;rw[m]at f;rw[k,<-f]
  ·rw[show o+j / 2*2+1=o+j by omega]at l
   rw[show j / 2*2+1=j by omega]at n;rw[n]at f;rw[l,<-f]
theorem jE(a:Fs)(w:World)(r:kR w z5 a)(B:a.length<=1073741824) :
  Calls prog 29 #[.slice z5 a.length H] w fun e t=>e=.returned (.slice (some ⟨w.heap.size,0,none⟩) a.length a.length)/\t.heap[w.heap.size]?=some (.cells (qK a).toArray 68 (0,0))/\ab [] w t:=by
 obtain⟨y,s,m,h,n⟩:=Re zZ;have z:=fun w=>dB (P:=prog) w 33 68 y _ underlying33 s m a.length 2 h (by rw[n];omega) (by omega)
 obtain⟨c,b⟩:∃A,A=madeCells (Value.agg #[.string ⟨#[]⟩,.string ⟨#[]⟩]).cells (a.length*2):=⟨_,rfl⟩
 have v:c.size=a.length*2:=by rw[b,Su]
 rw[<-b]at z;clear b;obtain⟨W,k⟩:∃W,Hid (w.alloc (.cells c 68)=W):=⟨_,rfl⟩
 have p:ab [] w W:=by rw[<-k.out];exact(ab.refl [] _).alloc _
 have q:W.heap[w.heap.size]?=some (.cells c 68 (0,0)):=by rw[<-k.out];exact QS _ _
 have d:(prog.info? (cr a).e).map (·.size)=some (cr a).size:=by simp[cr,s,h]
 have l:=(r.kept p (by simp)).cells;obtain⟨u,x,f,g,o⟩:=DQ (P:=prog) W 33 33 3 w.heap.size a.length H a.length z5 (cr a) c 68 underlying33 d q rfl (vn a) l.1 l.2 v (Gj a);have i:Hid (u.heap[w.heap.size]?=some (.cells (qK a).toArray 68 (0,0))):=f;have j:Hid (ab [] w u):=((p.mono (S':=[w.heap.size]) (by simp)).trans g).mono (by simp);clear r p q l d f g o v;go_enter func29,ntmps29
 go_upto_region 2 with fail
 rw[k.out];go_wp2;go_ret;exact⟨rfl,i.out,j.out⟩
end Go.Proofs.YtpddjjabfbfifaaGreat
