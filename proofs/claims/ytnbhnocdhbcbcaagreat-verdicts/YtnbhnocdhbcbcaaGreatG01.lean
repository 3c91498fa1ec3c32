import Derived.Test.YtnbhnocdhbcbcaaGreatChecked
import Derived.WalkKit
import Derived.WalkSpells
import Derived.WalkLawsBesides
import Derived.Deep.QuietTactic
import Derived.BigQuiet
import Derived.Deep.LoopGhost
import Derived.Laws.CopyRow
import Derived.Laws.MakeOwn
import Derived.Deep.RegionLaw
namespace Go.Proofs.YtnbhnocdhbcbcaaGreat
open Go.RowKit Tryz
open Value IntKind Ending
set_option maxHeartbeats 0
variable{y:List Nat}{b S:World}{l f zt y0:Nat}{N:Array Value}{y1:Obj}{g:Program}{a i L z0 z3 z6:Value}{z2:Bool}{z7:Int}{M d:ByteArray}{I:List Value}{zb:Array Oper}{m:Oper}{z1:Act}{y2:Exit->Act->World->Prop}{z4:Nat->Int}(v:ByteArray)(D x:Nat)(n w:ByteArray)(z5:Int)(T:World)(o H:Nat)
abbrev RQ:=@List.getElem?_eq_getElem
abbrev RT:=@List.getD_eq_getElem?_getD
abbrev RU:=@if_neg
abbrev RV:=@Nat.le_refl
abbrev RY:=@if_pos
abbrev RZ:=@Or.inr
abbrev R0:=@Go.Calls.mono
abbrev R2:=@Go.heap_alloc_new
abbrev R4:=@Or.inl
abbrev R6:=@Nat.lt_of_lt_of_le
abbrev R8:=@List.getElem?_eq_some_iff
abbrev R9:=@List.length_append
abbrev Sa:=@Go.bodyPost_ret
abbrev Sb:=@Go.World.ownsRow_nil
abbrev Sc:=@Nat.le_trans
abbrev Sd:=@List.mem_range
abbrev Se:=@List.mem_singleton
abbrev Sf:=@List.getElem?_append_right
abbrev Sg:=@Go.RowKit.Below.heap_setCell
abbrev Sh:=@Go.World.cell?_of_block
abbrev Si:=@List.getElem?_append_left
abbrev Sj:=@List.getElem_mem
abbrev Sk:=@Bool.and_eq_true
abbrev Sn:=@List.length_map
abbrev So:=@Nat.one_pos
abbrev Sp:=@beq_eq_false_iff_ne
abbrev Sq:=@List.drop_eq_getElem_cons
abbrev Sr:=@Go.info_parts
abbrev Ss:=@Go.Calls.quiet_of_same
abbrev Su:=@List.append_nil
abbrev Sv:=@List.mem_cons
abbrev Sw:=@List.eq_nil_of_length_eq_zero
abbrev Sx:=@List.mem_cons_of_mem
abbrev Sy:=@List.getElem?_map
abbrev Sz:=@List.mem_cons_self
abbrev SA:=@List.length_cons
abbrev SB:=@List.mem_append
abbrev SD:=@List.mem_filter
abbrev SE:=@Nat.zero_le
abbrev SF:=@List.map_append
abbrev SG:=@List.getElem?_eq_none
abbrev SJ:=@Bool.false_eq_true
abbrev SL:=@Bool.or_eq_true
abbrev SM:=@Go.ByteArray.toList_eq
abbrev SN:=@List.length_nil
abbrev SO:=@Int.toNat_natCast
abbrev SQ:=@List.any_eq_true
abbrev SS:=@List.length_set
abbrev SU:=@List.mem_of_find?_eq_some
abbrev SV:=@List.setIfInBounds_toArray
abbrev SZ:=@List.flatMap_cons
abbrev Ta:=@List.take_succ_eq_append_getElem
abbrev Tb:=@List.all_eq_true
abbrev Tc:=@List.length_drop
abbrev Td:=@Nat.sub_self
abbrev Te:=@Nat.le_of_lt
abbrev Tf:=@List.filter_append
abbrev Tg:=@List.getElem_of_mem
abbrev Th:=@List.drop_append_of_le_length
abbrev Ti:=@List.mem_append_left
abbrev Tj:=@List.not_mem_nil
abbrev Tl:=@List.getElem?_set
abbrev Tm:=@decide_eq_true_eq
abbrev Tn:=@List.find?_eq_none
abbrev To:=@List.length_take
abbrev Tp:=@Bool.or_eq_false_iff
abbrev Tq:=@Nat.add_sub_cancel
abbrev Tr:=@List.take_length
abbrev Ts:=@Bool.false_or
abbrev Tu:=@Bool.eq_iff_iff
abbrev Tv:=@List.drop_of_length_le
abbrev Tw:=@List.mem_map
abbrev Tx:=@List.find?_range_eq_some
abbrev Ty:=@List.range_succ
abbrev Tz:=@List.mem_append_right
abbrev TA:=@List.take_append_of_le_length
abbrev TE:=@Go.IntKind.wrap_i64
abbrev TF:=@decide_eq_false
abbrev TG:=@List.mem_of_getElem?
abbrev TH:=@decide_eq_true
abbrev TI:=@List.flatMap_append
abbrev TJ:=@List.getElem?_replicate
abbrev TM:=@List.append_assoc
abbrev TN:=@if_false
abbrev TO:=@Go.size_madeCells
abbrev TP:=@Bool.true_and
abbrev TQ:=@List.length_filter_le
abbrev TR:=@List.filter_cons_of_neg
abbrev TT:=@List.takeWhile_cons_of_pos
abbrev TU:=@Option.some.inj
abbrev TV:=@Bool.or_false
abbrev TY:=@List.ext_getElem?
abbrev TZ:=@List.set_cons_succ
abbrev T0:=@beq_iff_eq
abbrev Ua:=@List.mem_flatMap
abbrev Ub:=@List.getElem?_cons_succ
abbrev Uc:=@List.length_dropLast
abbrev Ud:=@List.mem_of_mem_take
abbrev Ue:=@List.filter_cons_of_pos
abbrev Uf:=@List.map_cons
abbrev Ug:=@or_false
abbrev Uh:=@Go.wp_loop_rounds
abbrev Ui:=@Nat.add_zero
abbrev Uj:=@List.foldl_append
abbrev Uk:=@List.take_of_length_le
abbrev Ul:=@List.length_range
abbrev Um:=@List.takeWhile_cons_of_neg
abbrev Un:=@List.getElem?_range
abbrev Uo:=@List.find?_some
abbrev Up:=@List.getLast?_eq_getElem?
abbrev Uq:=@List.set_append_right
abbrev Ur:=@List.cons_append
abbrev Us:=@List.getElem?_drop
abbrev Ut:=@Nat.zero_add
abbrev Uu:=@List.getLast?_eq_some_getLast
abbrev Uv:=@List.getLast?_concat
abbrev Uw:=@List.getElem?_cons_zero
abbrev Ux:=@List.map_congr_left
abbrev Uy:=@Nat.mul_le_mul
abbrev Uz:=@Bool.false_and
abbrev UA:=@List.contains_iff_mem
abbrev UB:=@List.pairwise_iff_getElem
abbrev UC:=@Bool.true_or
abbrev UD:=@Go.rounds_succ
abbrev UE:=@List.map_set
abbrev UF:=@List.any_cons
abbrev UG:=@List.flatMap_def
abbrev UH:=@List.take_zero
abbrev UI:=@List.length_eq_zero_iff
abbrev UJ:=@List.set_cons_zero
abbrev UK:=@List.getElem?_take
abbrev UL:=@ByteArray.size_extract
abbrev UM:=@List.drop_eq_nil_of_le
abbrev UN:=@List.filter_eq_nil_iff
abbrev UO:=@List.pairwise_lt_range
abbrev UP:=@List.nil_append
abbrev UQ:=@List.dropLast_concat_getLast
abbrev UR:=@Nat.add_assoc
abbrev US:=@Bool.or_assoc
abbrev UT:=@List.filterMap_append
abbrev UU:=@List.length_singleton
abbrev UV:=@List.any_eq_false
abbrev UW:=@List.getElem_drop
abbrev UX:=@Int.le_refl
abbrev UY:=@List.set_append_left
abbrev UZ:=@Array.toList_setIfInBounds
abbrev U0:=@List.drop_zero
abbrev U3:=@List.mem_of_mem_drop
abbrev U4:=@Array.toList_inj
abbrev U5:=@List.length_pos_iff
abbrev U6:=@List.mem_map_of_mem
abbrev U7:=@List.replicate_succ
abbrev U8:=@if_true
abbrev U9:=@Nat.not_lt_zero
abbrev Vb:=@Int.tmod_lt_of_pos
abbrev Vc:=@LawfulBEq.eq_of_beq
abbrev Vd:=@Nat.le_succ
abbrev Ve:=@List.all_eq_false
abbrev Vf:=@Go.World.drewN_drewN
abbrev Vg:=@Bool.and_assoc
abbrev Vh:=@Nat.succ_pos
abbrev Vi:=@Go.run_convert_bytes_back
abbrev Vj:=@Nat.lt_trichotomy
abbrev Vk:=@Array.getElem?_setIfInBounds_ne
abbrev Vl:=@List.flatMap_nil
abbrev Vm:=@List.ext_getElem
abbrev Vn:=@List.drop_length
abbrev Vo:=@List.flatMap_map
abbrev Vp:=@beq_self_eq_true
abbrev Vq:=@List.map_take
abbrev Vr:=@Nat.add_mul
abbrev Vs:=@List.dropLast_subset
abbrev Vt:=@Nat.mul_le_mul_right
abbrev Vu:=@List.Pairwise.filter
abbrev Vv:=@Int.tmod_nonneg
abbrev Vw:=@List.filter_nil
abbrev Vx:=@List.foldl_cons
abbrev Vy:=@List.find?_cons
abbrev Vz:=@Int.toNat_of_nonneg
abbrev VB:=@List.take_succ_cons
abbrev VC:=@List.map_nil
abbrev VD:=@Nat.mod_two_eq_zero_or_one
abbrev VF:=@List.take_take
abbrev VG:=@Go.World.grownBy.refl
abbrev VH:=@List.mem_filterMap
abbrev VI:=@Go.Calls.quiet_of
abbrev VJ:=@List.filter_filter
abbrev VK:=@Bool.true_eq_false
abbrev VL:=@Option.toList_some
abbrev VM:=@List.take_add_one
abbrev VN:=@Nat.two_pos
abbrev VO:=@List.filter_congr
abbrev VP:=@Bool.not_eq_true'
abbrev VQ:=@of_decide_eq_true
abbrev VR:=@List.reverse_cons
abbrev VS:=@Nat.le_succ_of_le
abbrev VT:=@List.take_set
abbrev VU:=@List.length_filterMap_le
abbrev VW:=@ByteArray.ext
abbrev VX:=@Bool.and_comm
abbrev VY:=@Bool.not_true
abbrev VZ:=@Option.getD_some
abbrev V3:=@List.getLast?_cons_cons
abbrev V4:=@List.filter_cons
abbrev V5:=@Nat.lt_or_ge
abbrev V6:=@List.map_map
abbrev V7:=@Bool.or_true
abbrev V8:=@Nat.zero_mul
abbrev V9:=@beq_false_of_ne
abbrev Wa:=@List.any_append
abbrev Wb:=@List.filter_map
abbrev Wc:=@Go.run_underlying
abbrev Wd:=@List.cons.inj
abbrev Fs:=List (ByteArray×ByteArray)
structure aa(S:List Nat)(w w':World):Prop where
 os:w'.os=w.os
 tape:w'.tape=w.tape
 output:w'.output=w.output
 size:w.heap.size<=w'.heap.size
 block:∀k,k<w.heap.size->k∉S->w'.heap[k]?=w.heap[k]?
theorem aa.refl(S:List Nat)(w:World):aa S w w:=⟨rfl,rfl,rfl,RV _,fun _ _ _=>rfl⟩
theorem aa.trans{c:World}(h:aa y b S)(k:aa y S c):aa y b c :=
 ⟨k.os.trans h.os,k.tape.trans h.tape,k.output.trans h.output,Sc h.size k.size,
  fun i a d=>(k.block i (R6 a h.size) d).trans (h.block i a d)⟩
theorem aa.mono{S':List Nat}(h:aa y b S)(c:∀k,k∈y->k<b.heap.size->k∈S'):aa S' b S :=
 ⟨h.os,h.tape,h.output,h.size,fun k a e=>h.block k a (fun d=>e (c k d a))⟩
theorem aa.drew(h:aa y b S):aa y b S.drew:=⟨h.os,h.tape,h.output,h.size,h.block⟩
theorem aa.drewN(h:aa y b S)(n:Nat):aa y b (S.drewN n):=⟨h.os,h.tape,h.output,h.size,h.block⟩
theorem aa.alloc(h:aa y b S)(o:Obj):aa y b (S.alloc o) :=
 h.trans ⟨rfl,rfl,rfl,by simp,fun k a _=>Below.heap_alloc _ _ _ a⟩
theorem aa.setCell(h:aa y b S){p:Addr}(a:p.block∈y∨b.heap.size<=p.block)(u:Value):aa y b (S.setCell p u) :=
 ⟨h.os,h.tape,h.output,by have:=h.size;simp[World.setCell];omega,fun k d c=>by
  rw[Sg _ _ _ _ (by rintro rfl;exact a.elim c (fun a=>by omega))];exact h.block k d c⟩
theorem aa.below(h:aa [] b S):Below b.heap.size b S :=
 ⟨h.os,h.tape,h.output,h.size,fun k a=>h.block k a (by simp)⟩
theorem aj(h:b.heap[l]?=some (.cells N f))(i:Nat):b.cell? ⟨l,i,none⟩=N[i]?:=by
 unfold World.cell?;simp[h]
theorem am(h:b.heap[l]?=some (.cells N f))(i:Nat):b.frozen? ⟨l,i,none⟩=false:=by
 unfold World.frozen?;simp[h]
theorem ah(h:b.heap[l]?=some (.cells N f))(i:Nat)(u:Value) :
  (b.setCell ⟨l,i,none⟩ u).heap[l]?=some (.cells (N.setIfInBounds i u) f):=by
 simp[World.setCell,Array.getElem?_modify,h]
theorem ae(h:b.heap[l]?=some y1):l<b.heap.size:=by
 rcases V5 l b.heap.size with a | a
 ·exact a
 ·rw[Array.getElem?_eq_none a]at h;simp at h
theorem MP{d:FuncId}(h:Calls g d N (b.drewN (l+f)) fun e c=>e=returned a/\c=b.drewN (l+f)) :
  Calls g d N (b.drewN (l+f)) fun e c=>e=returned a/\∃n,c=b.drewN (l+n) :=
 h.mono fun _ _ i=>⟨i.1,f,i.2⟩
theorem aE{b:Bool}(h:z2=b):Ending.returned (bool z2)=returned (bool b):=by rw[h]
theorem au{k:IntKind}{b:Int}(h:z7=b):Ending.returned (int k z7)=returned (int k b):=by rw[h]
theorem IK(h:M.toList=d.toList):M=d:=by
 rw[SM,SM]at h;cases M;cases d
 simp only[Array.toList_inj]at h;rw[h]
theorem Ai(h:b.heap[l]?=some (.cells #[a,i] f)):b.cell? ⟨l,0,none⟩=some a/\b.cell? ⟨l,1,none⟩=some i :=
 ⟨aj h _,aj h _⟩
theorem vH(h:b.heap[l]?=some (.cells #[a,i,L] f)):b.cell? ⟨l,0,none⟩=some a/\b.cell? ⟨l,1,none⟩=some i/\b.cell? ⟨l,2,none⟩=some L :=
 ⟨aj h _,aj h _,aj h _⟩
theorem BK(h:b.heap[l]?=some (.cells #[a,i,L,z0] f)):b.cell? ⟨l,0,none⟩=some a/\b.cell? ⟨l,1,none⟩=some i/\b.cell? ⟨l,2,none⟩=some L/\b.cell? ⟨l,3,none⟩=some z0 :=
 ⟨aj h _,aj h _,aj h _,aj h _⟩
theorem nR(h:b.heap[l]?=some (.cells #[a,i,L,z0,z3] f)):b.cell? ⟨l,0,none⟩=some a/\b.cell? ⟨l,1,none⟩=some i/\b.cell? ⟨l,2,none⟩=some L/\b.cell? ⟨l,3,none⟩=some z0/\b.cell? ⟨l,4,none⟩=some z3 :=
 ⟨aj h _,aj h _,aj h _,aj h _,aj h _⟩
theorem IM(h:b.heap[l]?=some (.cells #[a,i,L,z0,z3,z6] f)):b.cell? ⟨l,0,none⟩=some a/\b.cell? ⟨l,1,none⟩=some i/\b.cell? ⟨l,2,none⟩=some L/\b.cell? ⟨l,3,none⟩=some z0/\b.cell? ⟨l,4,none⟩=some z3/\b.cell? ⟨l,5,none⟩=some z6 :=
 ⟨aj h _,aj h _,aj h _,aj h _,aj h _,aj h _⟩
theorem vI{c d:Value}(h:b.heap[l]?=some (.cells #[a,i,L,z0,z3,z6,c,d] f)):b.cell? ⟨l,0,none⟩=some a/\b.cell? ⟨l,1,none⟩=some i/\b.cell? ⟨l,2,none⟩=some L/\b.cell? ⟨l,3,none⟩=some z0/\b.cell? ⟨l,4,none⟩=some z3/\b.cell? ⟨l,5,none⟩=some z6/\b.cell? ⟨l,6,none⟩=some c/\b.cell? ⟨l,7,none⟩=some d :=
 ⟨aj h _,aj h _,aj h _,aj h _,aj h _,aj h _,aj h _,aj h _⟩
theorem fY(h:b.alloc (.cells N l)=S):S.heap[b.heap.size]?=some (.cells N l):=by
 rw[<-h];exact R2 _ _
theorem fN(h:b.alloc (.cells N l)=S):aa [] b S:=by
 rw[<-h];exact(aa.refl [] _).alloc _
def da(n:Int):Bool:=n==32||n==9||n==10||n==12||n==13
def fI(n:Int):Bool:=decide (33<=n)&&decide (n<=126)
theorem kE :
  Calls prog 227 #[int u8 z5] T fun e a=>e=returned (bool (da z5))/\a=T:=by
 go_enter func227,ntmps227;go_wp2
 all_goals go_ret
 all_goals (refine⟨?_,rfl⟩;simp[da, *])
theorem pC :
  Calls prog 230 #[int u8 z5] T fun e a=>e=returned (bool (fI z5))/\a=T:=by
 go_enter func230,ntmps230;go_wp2
 all_goals go_ret
 all_goals (refine⟨?_,rfl⟩;first | (simp[fI, *];done) | (simp[fI];omega))
def aH(d:ByteArray)(k:Nat):Int:=if h:k<d.size then((d[k]'h).toNat:Int) else 0
theorem bU(h:H<w.size):aH w H=((w[H]'h).toNat:Int):=by unfold aH;rw[dif_pos h]
def aR(d:ByteArray):Nat->Int
 | 0=>1
 | k+1=>if aH d k==10 then aR d k+1 else aR d k
def bC(d:ByteArray):Nat->Int
 | 0=>1
 | k+1=>if aH d k==10 then 1 else bC d k+1
theorem AH(k:Nat):1<=aR w k/\aR w k<=k+1:=by
 induction k with
 | zero=>simp[aR]
 | succ k a=>simp only[aR];split <;> omega
theorem Am(k:Nat):1<=bC w k/\bC w k<=k+1:=by
 induction k with
 | zero=>simp[bC]
 | succ k a=>simp only[bC];split <;> omega
def na(n d:ByteArray)(k:Nat):Array Value:=#[string n,string d,int i64 k,int i64 (aR d k),int i64 (bC d k)]
def b7(w:World)(b:Nat)(n d:ByteArray)(k:Nat):Prop:=w.heap[b]?=some (.cells (na n d k) 300)
theorem b7.cells(h:b7 b l M d f) :
  b.cell? ⟨l,0,none⟩=some (string M)/\b.cell? ⟨l,1,none⟩=some (string d)/\b.cell? ⟨l,2,none⟩=some (int i64 f) /\
  b.cell? ⟨l,3,none⟩=some (int i64 (aR d f))/\b.cell? ⟨l,4,none⟩=some (int i64 (bC d f)):=by
 refine⟨?_,?_,?_,?_,?_⟩ <;> (rw[aj h];rfl)
theorem b7.kept(h:b7 b l M d f)(c:aa y b S)(a:l∉y):b7 S l M d f :=
 (c.block l (ae h) a).trans h
theorem aa.get(c:aa y b S)(h:b.heap[l]?=some y1)(a:l∉y):S.heap[l]?=some y1 :=
 (c.block l (ae h) a).trans h
theorem A9(h:b7 b l M d f)(g:f<d.size)(e:((d[f].toNat:Int)==10)=true)(m:Nat) :
  b7 (((((b.drewN m).setCell ⟨l,3,none⟩ (int i64 (aR d f+1))).setCell ⟨l,4,none⟩ (int i64 0)).setCell ⟨l,4,none⟩ (int i64 1)).setCell ⟨l,2,none⟩ (int i64 ((f:Int)+1))) l M d (f+1):=by
 have a:(b.drewN m).heap[l]?=some (.cells (na M d f) 300):=h;have c:=ah (ah (ah (ah a 3 (int i64 (aR d f+1))) 4 (int i64 0)) 4 (int i64 1)) 2 (int i64 ((f:Int)+1));unfold b7;rw[c];simp[na,aR,bC,bU d f g,e]
theorem vL(h:b7 b l M d f)(g:f<d.size)(e:((d[f].toNat:Int)==10)=false)(m:Nat) :
  b7 (((b.drewN m).setCell ⟨l,4,none⟩ (int i64 (bC d f+1))).setCell ⟨l,2,none⟩ (int i64 ((f:Int)+1))) l M d (f+1):=by
 have a:(b.drewN m).heap[l]?=some (.cells (na M d f) 300):=h;have c:=ah (ah a 4 (int i64 (bC d f+1))) 2 (int i64 ((f:Int)+1));unfold b7;rw[c];simp[na,aR,bC,bU d f g,e]
theorem Ds(p:w.size<=1024)(a:x<w.size)(h:b7 T D n w x) :
  Calls prog 228 #[pointer (some ⟨D,0,none⟩)] T fun e b=>e=returned (tuple #[])/\b7 b D n w (x+1)/\aa [D] T b:=by
 obtain⟨f,g,i,j,k⟩:=h.cells;have l:=am h 2;have m:=am h 3;have o:=am h 4;have d:=AH w x;have c:=Am w x;go_enter func228,ntmps228;go_wp2;go_quiet (fail);go_wp2;go_quiet (fail);go_wp2
 all_goals go_end0
 all_goals refine⟨rfl,?_,?_⟩
 ·exact A9 h a (by assumption) _
 ·exact((((((aa.refl _ _).drewN _).setCell (R4 (by simp)) _).setCell (R4 (by simp)) _).setCell (R4 (by simp)) _).setCell (R4 (by simp)) _)
 ·exact vL h a (by assumption) _
 ·exact((((aa.refl _ _).drewN _).setCell (R4 (by simp)) _).setCell (R4 (by simp)) _)
theorem zv(h:b7 T D n w x) :
  Calls prog 229 #[pointer (some ⟨D,0,none⟩)] T fun e a=>e=returned (agg #[string n,int i64 (aR w x),int i64 (bC w x)])/\aa [] T a:=by
 obtain⟨b,c,d,f,g⟩:=h.cells;have i:=ae h;go_enter func229,ntmps229;go_wp2;go_region
 all_goals go_wp2
 exact Sa (v:=agg #[string n,int i64 (aR w x),int i64 (bC w x)]) (by simp[results,results229,go_sem]) rfl ⟨rfl,((aa.refl _ _).alloc _).drew⟩
def qw(d:ByteArray):Nat->Nat->Nat
 | 0,k=>k
 | f+1,k=>if k<d.size/\da (aH d k)=true then qw d f (k+1) else k
def skip(d:ByteArray)(k:Nat):Nat:=qw d (d.size-k) k
def qA(d:ByteArray):Nat->Nat->Nat
 | 0,k=>k
 | f+1,k=>if k<d.size/\da (aH d k)=false/\fI (aH d k)=true then qA d f (k+1) else k
def cU(d:ByteArray)(k:Nat):Nat:=qA d (d.size-k) k
theorem Ht(h:H<w.size)(a:da (aH w H)=true):skip w H=skip w (H+1):=by
 unfold skip;rw[show w.size-H=(w.size-(H+1))+1 by omega];rw[qw,RY ⟨h,a⟩]
theorem tY(h:¬(H<w.size/\da (aH w H)=true)):skip w H=H:=by
 unfold skip;cases w.size-H with
 | zero=>rfl
 | succ f=>rw[qw,RU h]
theorem Ij(h:H<w.size)(a:da (aH w H)=false)(b:fI (aH w H)=true):cU w H=cU w (H+1):=by
 unfold cU;rw[show w.size-H=(w.size-(H+1))+1 by omega];rw[qA,RY ⟨h,a,b⟩]
theorem ye(h:¬(H<w.size/\da (aH w H)=false/\fI (aH w H)=true)):cU w H=H:=by
 unfold cU;cases w.size-H with
 | zero=>rfl
 | succ f=>rw[qA,RU h]
theorem zF(f k:Nat):k<=qw w f k/\(k<=w.size->qw w f k<=w.size):=by
 induction f generalizing k with
 | zero=>simp[qw]
 | succ f a =>
  rw[qw];split
  ·have:=a (k+1);omega
  ·omega
theorem zS(f k:Nat):k<=qA w f k/\(k<=w.size->qA w f k<=w.size):=by
 induction f generalizing k with
 | zero=>simp[qA]
 | succ f a =>
  rw[qA];split
  ·have:=a (k+1);omega
  ·omega
theorem Ba(h:H<=w.size):H<=skip w H/\skip w H<=w.size:=⟨(zF w _ H).1,(zF w _ H).2 h⟩
theorem sC(h:H<=w.size):H<=cU w H/\cU w H<=w.size:=⟨(zS w _ H).1,(zS w _ H).2 h⟩
structure sJ where
 text:ByteArray
 rule:Int
 fin:Bool
 pos:Nat
def fA(n d:ByteArray)(i:sJ):Value:=agg #[string i.text,int i64 i.rule,bool i.fin,string n,int i64 (aR d i.pos),int i64 (bC d i.pos)]
def bJ(d:ByteArray)(k:Nat):sJ×Nat :=
 let a:=skip d k
 let z:=cU d a
 if z<d.size/\da (aH d z)=false then(⟨⟨#[]⟩,1,false,z⟩,z)
 else if z<=a then(⟨⟨#[]⟩,0,true,a⟩,z)
 else(⟨d.extract a z,0,false,a⟩,z)
theorem Dj(b:o=skip v x)(d:cU v H=cU v o)(f:H<v.size)(a:da (aH v H)=false)(c:fI (aH v H)=false) :
  bJ v x=(⟨⟨#[]⟩,1,false,H⟩,H):=by
 have e:cU v (skip v x)=H:=by rw[<-b,<-d];exact ye v H (fun h=>by simp[c]at h)
 simp only[bJ,e];rw[RY ⟨f,a⟩]
theorem Dk(a:o=skip v x)(c:cU v H=cU v o)(b:¬(H<v.size/\da (aH v H)=false))(d:H<=o) :
  bJ v x=(⟨⟨#[]⟩,0,true,o⟩,H):=by
 have e:cU v (skip v x)=H:=by rw[<-a,<-c];exact ye v H (fun h=>b ⟨h.1,h.2.1⟩)
 simp only[bJ,e];rw[RU b,<-a,RY d]
theorem zB(a:o=skip v x)(c:cU v H=cU v o)(b:¬(H<v.size/\da (aH v H)=false))(d:o<H) :
  bJ v x=(⟨v.extract o H,0,false,o⟩,H):=by
 have e:cU v (skip v x)=H:=by rw[<-a,<-c];exact ye v H (fun h=>b ⟨h.1,h.2.1⟩)
 simp only[bJ,e];rw[RU b,<-a,RU (by omega)]
theorem KL :
  (∃h:H<w.size,da ((w[H]'h).toNat:Int)=false/\fI ((w[H]'h).toNat:Int)=true/\cU w (H+1)=cU w H) ∨
  (∃h:H<w.size,da ((w[H]'h).toNat:Int)=false/\fI ((w[H]'h).toNat:Int)=false) ∨
  (∃h:H<w.size,da ((w[H]'h).toNat:Int)=true)∨(¬H<w.size/\decide ((H:Int)<(w.size:Int))=false):=by
 by_cases h:H<w.size
 ·have e:=bU w H h;cases a:da (aH w H) with
  | true=>exact RZ (RZ (R4 ⟨h,e ▸ a⟩))
  | false =>
   cases b:fI (aH w H) with
   | true=>exact R4 ⟨h,e ▸ a,e ▸ b,(Ij w H h a b).symm⟩
   | false=>exact RZ (R4 ⟨h,e ▸ a,e ▸ b⟩)
 ·exact RZ (RZ (RZ ⟨h,by simp;omega⟩))
def kQ(n:Int):Bool:=decide (33<=n)&&decide (n<=126) && !(n==36)
def gI(s:ByteArray):Bool:=decide (1<=s.size)&&decide (s.size<=8)&&(List.range s.size).all (fun i=>kQ (aH s i))
def dc(n d:ByteArray):Int:=if gI n=false then 2 else if 1024<d.size then 3 else 0
theorem mQ(h:w.size<1∨8<w.size):gI w=false:=by
  unfold gI;rcases h with h | h
  · simp[show ¬1<=w.size by omega]
  · simp[show ¬w.size<=8 by omega]
theorem EF(h:H<w.size)(a:kQ (aH w H)=false):gI w=false:=by
  unfold gI;have:(List.range w.size).all (fun H=>kQ (aH w H))=false:=by
    rw[Ve];exact⟨H,by simp[h],by simp[a]⟩
  simp[this]
theorem Cz(a:1<=w.size)(b:w.size<=8)(h:∀i,i<w.size->kQ (aH w i)=true):gI w=true:=by
  unfold gI;have:(List.range w.size).all (fun i=>kQ (aH w i))=true:=by
    rw[Tb];intro i c;exact h i (by simpa using c)
  simp[this,a,b]
theorem xd(q:w.size<=1073741824) :
    Calls prog 78 #[string w] T fun e n=>e=returned (bool (gI w))/\n=T:=by
  by_cases j:1<=w.size
  · by_cases l:w.size<=8
    · go_enter func78,ntmps78
      go_wp2
      go_loopg [3] w.size (fun g i wr=>∃k:Nat,k<=w.size/\g=w.size-k/\i=int i64 k/\Hid (∀i,i<k->kQ (aH w i)=true)/\wr=T)
      case atStart=>exact⟨0,by omega,by omega,rfl,fun i h=>by omega,rfl⟩
      case round =>
        obtain⟨k,p,o,rfl,a,rfl⟩:=hrel;by_cases c:k<w.size
        · have f:∀b:Bool,kQ (w[k].toNat:Int)=b->kQ (aH w k)=b:=fun b h=>by rw[bU w k c];exact h
          have d:Hid (∀b:Bool,kQ (w[k].toNat:Int)=b->kQ (aH w k)=b):=f;clear f;go_wp2
          all_goals first
            | (go_ret;refine⟨aE ?_,rfl⟩;rw[EF w k c (d.out false ?_)];first | (simp[kQ];omega) | (simp[kQ];simp at *;omega))
            | (go_roundg (w.size-(k+1))
               case measure=>omega
               case rel =>
                 refine⟨k+1,by omega,rfl,by go_num,?_,rfl⟩;intro i m;by_cases e:i=k
                 · subst e;exact d.out true (by simp[kQ];simp at *;omega)
                 · exact a.out i (by omega))
        · go_wp2
          go_ret;exact⟨aE (Cz w j l (fun i m=>a.out i (by omega))).symm,rfl⟩
    · go_enter func78,ntmps78
      go_wp2
      all_goals go_ret
      all_goals exact⟨aE (mQ w (RZ (by omega))).symm,rfl⟩
  · go_enter func78,ntmps78
    go_wp2
    all_goals go_ret
    all_goals exact⟨aE (mQ w (R4 (by omega))).symm,rfl⟩
theorem oh(b:n.size<=1073741824)(g:w.size<=4294967296) :
    Calls prog 50 #[string n,string w] T fun e d=>e=returned (int i64 (dc n w))/\d=T:=by
  cases a:gI n
  · go_enter func50,ntmps50
    go_wp2_with fail;refine(xd n _ b).mono ?_;rintro e f ⟨rfl,rfl⟩;go_wp2;go_ret;exact⟨au (by simp[dc,a]),rfl⟩
  · by_cases c:1024<w.size
    all_goals
      go_enter func50,ntmps50;go_wp2_with fail;refine(xd n _ b).mono ?_;rintro e f ⟨rfl,rfl⟩;go_wp2;go_ret;exact⟨au (by simp[dc,a,c]),rfl⟩
def aD(fs:Fs)(i:Nat):ByteArray:=(fs.getD i (⟨#[]⟩,⟨#[]⟩)).1
def ak(fs:Fs)(i:Nat):ByteArray:=(fs.getD i (⟨#[]⟩,⟨#[]⟩)).2
def pk(fs:Fs):List Value :=
  [string (aD fs 0),string (ak fs 0),string (aD fs 1),string (ak fs 1),string (aD fs 2),string (ak fs 2),string (aD fs 3),string (ak fs 3),int i64 fs.length]
def bF(w:World)(v t:Nat)(fs:Fs)(more:List Value):Prop:=w.heap[v]?=some (.cells (pk fs++more).toArray t)/\fs.length<=4
theorem bF.name{a:Fs}(h:bF b l f a I)(i:Nat)(c:i<4) :
    b.cell? ⟨l,i*2,none⟩=some (string (aD a i))/\b.cell? ⟨l,i*2+1,none⟩=some (string (ak a i)):=by
  constructor <;> rw[aj h.1]
  all_goals
    match i,c with
    | 0,_=>rfl
    | 1,_=>rfl
    | 2,_=>rfl
    | 3,_=>rfl
theorem bF.count{a:Fs}(h:bF b l f a I) :
    b.cell? ⟨l,8,none⟩=some (int i64 a.length):=by
  rw[aj h.1];rfl
def dD(n:ByteArray):Fs->Nat->Int
  | [],_=>-1
  | f :: r,i=>if(f.1.toList==n.toList)=true then i else dD n r (i+1)
def bM(fs:Fs)(n:ByteArray):Int:=dD n fs 0
theorem GA{α:Type}(l:List α)(k:Nat)(h:k<l.length):l.drop k=l[k] :: l.drop (k+1):=Sq h
theorem zc(a:Fs)(k:Nat)(h:k<a.length):aD a k=a[k].1:=by
  unfold aD;rw[RT,RQ h];rfl
theorem Cl(a:Fs)(n:ByteArray)(k:Nat)(h:k<a.length)(c:bM a n=dD n (a.drop k) k)(b:((aD a k).toList==n.toList)=true):bM a n=k:=by
  rw[c,GA _ _ h,dD,<-zc a k h,RY b]
theorem ze(a:Fs)(n:ByteArray)(k:Nat)(h:k<a.length)(c:bM a n=dD n (a.drop k) k)(b:((aD a k).toList==n.toList)=false):bM a n=dD n (a.drop (k+1)) (k+1):=by
  rw[c,GA _ _ h,dD,<-zc a k h,RU (by simp[b])]
theorem zf(a:Fs)(n:ByteArray)(k:Nat)(h:¬k<a.length)(b:bM a n=dD n (a.drop k) k):bM a n=-1:=by
  rw[b,Tv (by omega),dD]
theorem ma(b:Fs)(f:List Value)(n:ByteArray)(w:World)(h:bF w o H b f) :
    Calls prog 51 #[pointer (some ⟨o,0,none⟩),string n] w fun e p=>e=returned (int i64 (bM b n))/\p=w:=by
  have l:=h.count;have m:=h.2;go_enter func51,ntmps51;go_wp2
  go_loopg [5] b.length (fun g i wr=>∃k:Nat,k<=b.length/\g=b.length-k/\i=int i64 k/\Hid (bM b n=dD n (b.drop k) k)/\wr=w)
  case atStart=>exact⟨0,by omega,by omega,rfl,rfl,rfl⟩
  case round =>
    obtain⟨k,r,q,rfl,a,rfl⟩:=hrel;by_cases c:k<b.length
    · obtain⟨s,t⟩:=h.name k (by omega)
      cases j:((aD b k).toList==n.toList)
      · have d:Hid (bM b n=dD n (b.drop (k+1)) (k+1)):=ze b n k c a.out j
        clear a;go_wp2;go_roundg (b.length-(k+1))
        case measure=>omega
        case rel=>exact⟨k+1,by omega,rfl,by go_num,d,rfl⟩
      · have d:Hid (bM b n=k):=Cl b n k c a.out j
        clear a;go_wp2;go_ret;exact⟨au d.out.symm,rfl⟩
    · have d:Hid (bM b n=-1):=zf b n k c a.out
      clear a;go_wp2;go_ret;exact⟨au d.out.symm,rfl⟩
theorem bF.free{a:Fs}(h:bF b l f a I)(i:Nat):b.frozen? ⟨l,i,none⟩=false:=am h.1 i
theorem bF.kept{a:Fs}(h:bF b l f a I)(c:aa y b S)(d:l∉y):bF S l f a I :=
 ⟨c.get h.1 d,h.2⟩
theorem bF.lt{a:Fs}(h:bF b l f a I):l<b.heap.size:=ae h.1
theorem LO(a:Fs)(b:List Value)(w:World)(h:bF w x o a b)(i:H<a.length) :
  Calls prog 155 #[pointer (some ⟨x,0,none⟩),int i64 H] w fun e g=>e=returned (agg #[string (aD a H),string (ak a H)])/\aa [] w g:=by
 have c:=h.count;have d:=h.2;have f:=h.lt;obtain⟨j,k⟩:=h.name H (by omega);go_enter func155,ntmps155;go_wp2;exact Sa (v:=agg #[string (aD a H),string (ak a H)]) (by simp[results,results155,go_sem]) rfl ⟨rfl,(aa.refl _ _).alloc _⟩
theorem Pa(f:Fs)(e:List Value)(n d:ByteArray)(h:f.length<4) :
  (((pk f++e).set (f.length*2) (string n)).set (f.length*2+1) (string d)).set 8 (int i64 ((f.length:Int)+1))=pk (f++[(n,d)])++e:=by
 match f,h with
 | [],_=>rfl
 | [a],_=>rfl
 | [a,b],_=>rfl
 | [a,b,c],_=>rfl
theorem Pb(g:Fs)(f:List Value)(n d:ByteArray)(k:Nat)(i:k<g.length)(h:g.length<=4) :
  ((pk g++f).set (k*2) (string n)).set (k*2+1) (string d)=pk (g.set k (n,d))++f:=by
 match g,h,k,i with
 | [a],_,0,_=>rfl
 | [a,b],_,0,_=>rfl
 | [a,b],_,1,_=>rfl
 | [a,b,c],_,0,_=>rfl
 | [a,b,c],_,1,_=>rfl
 | [a,b,c],_,2,_=>rfl
 | [a,b,c,e],_,0,_=>rfl
 | [a,b,c,e],_,1,_=>rfl
 | [a,b,c,e],_,2,_=>rfl
 | [a,b,c,e],_,3,_=>rfl
theorem bF.added{a:Fs}(h:bF b l f a I)(n d:ByteArray)(e:a.length<4) :
  bF (((b.setCell ⟨l,a.length*2,none⟩ (string n)).setCell ⟨l,a.length*2+1,none⟩ (string d)).setCell ⟨l,8,none⟩ (int i64 ((a.length:Int)+1))) l f (a++[(n,d)]) I:=by
 have c:=ah (ah (ah h.1 (a.length*2) (string n)) (a.length*2+1) (string d)) 8 (int i64 ((a.length:Int)+1));refine⟨?_,by simp;omega⟩;rw[c];simp only[List.setIfInBounds_toArray,Pa a I n d e]
theorem bF.turned{a:Fs}(h:bF b l f a I)(n d:ByteArray)(k:Nat)(e:k<a.length) :
  bF ((b.setCell ⟨l,k*2,none⟩ (string n)).setCell ⟨l,k*2+1,none⟩ (string d)) l f (a.set k (n,d)) I:=by
 have c:=ah (ah h.1 (k*2) (string n)) (k*2+1) (string d);refine⟨?_,by simpa using h.2⟩;rw[c];simp only[List.setIfInBounds_toArray,Pb a I n d k e h.2]
theorem Gt(b:Fs)(a:List Value)(c:World)(h:bF c D x b a)(i:b.length<4) :
  Calls prog 52 #[pointer (some ⟨D,0,none⟩),agg #[string n,string w]] c fun e f=>e=returned (tuple #[])/\bF f D x (b++[(n,w)]) a/\aa [D] c f:=by
 have d:=h.count;have g:=h.free;have j:=h.lt;obtain⟨k,l⟩:=h.name b.length (by omega);go_enter func52,ntmps52;go_wp2;go_region
 all_goals go_wp2
 all_goals go_end0
 exact⟨rfl,(h.added n w i).kept ((aa.refl [] _).alloc _ |>.drew) (by simp),((((aa.refl _ _).setCell (R4 (by simp)) _).setCell (R4 (by simp)) _).setCell (R4 (by simp)) _).alloc _ |>.drew⟩
def fm(fs:Fs)(n d:ByteArray):Int×Fs :=
 if dc n d≠0 then(dc n d,fs)
 else if 0<=bM fs n then(0,fs.set (bM fs n).toNat (n,d))
 else if 4<=fs.length then(1,fs) else(0,fs++[(n,d)])
theorem Cj(a:Fs)(i:Nat):dD w a i=-1∨((i:Int)<=dD w a i/\dD w a i<i+a.length):=by
 induction a generalizing i with
 | nil=>exact R4 rfl
 | cons f r b =>
  rw[dD];split
  ·exact RZ ⟨by omega,by simp;omega⟩
  ·rcases b (i+1) with h | h
   ·exact R4 h
   ·exact RZ ⟨by omega,by simp;omega⟩
theorem pT(a:Fs):bM a w=-1∨∃k:Nat,k<a.length/\bM a w=k:=by
 rcases Cj w a 0 with h | h
 ·exact R4 h
 ·refine RZ ⟨(bM a w).toNat,?_,?_⟩ <;> (unfold bM;omega)
theorem G1(a:Fs)(b:List Value)(p:World)(h:bF p D x a b)(m:n.size<=1073741824)(l:w.size<=4294967296) :
  Calls prog 33 #[pointer (some ⟨D,0,none⟩),string n,string w] p fun e t=>e=returned (int i64 (fm a n w).1)/\bF t D x (fm a n w).2 b/\aa [D] p t:=by
 have q:=h.count;have A:=h.lt;have s:=h.2;by_cases c:dc n w=0
 ·rcases pT n a with g | ⟨k,z,g⟩
  ·by_cases r:4<=a.length
   ·have f:Hid (fm a n w=(1,a)):=(by show fm a n w=_;simp[fm,c,g,r]);have j:Hid (dc n w=0):=c;have d:Hid (bM a n=-1):=g;clear c g;go_enter func33,ntmps33;go_wp2_with fail;refine(oh n w _ m l).mono ?_;rintro e i ⟨rfl,rfl⟩;rw[j.out];go_wp2_with fail;refine(ma D x a b n _ (by exact h.kept ((aa.refl [] _).alloc _) (by simp))).mono ?_;rintro e i ⟨rfl,rfl⟩;rw[d.out];go_wp2;go_ret;exact⟨au (by rw[f.out]),by rw[f.out];exact h.kept ((aa.refl [] _).alloc _) (by simp),(aa.refl _ _).alloc _⟩
   ·have f:Hid (fm a n w=(0,a++[(n,w)])):=(by show fm a n w=_;simp[fm,c,g,r]);have j:Hid (dc n w=0):=c;have d:Hid (bM a n=-1):=g;clear c g;go_enter func33,ntmps33;go_wp2_with fail;refine(oh n w _ m l).mono ?_;rintro e i ⟨rfl,rfl⟩;rw[j.out];go_wp2_with fail;refine(ma D x a b n _ (by exact h.kept ((aa.refl [] _).alloc _) (by simp))).mono ?_;rintro e i ⟨rfl,rfl⟩;rw[d.out];go_wp2_with fail;refine(Gt D x n w a b _ (by exact h.kept ((aa.refl [] _).alloc _) (by simp)) (by omega)).mono ?_;rintro e E ⟨rfl,u,o⟩;go_wp2;go_ret;exact⟨au (by rw[f.out]),by rw[f.out];exact u,((aa.refl _ _).alloc _).trans o⟩
  ·have f:Hid (fm a n w=(0,a.set k (n,w))):=(by show fm a n w=_;simp[fm,c,g]);have j:Hid (dc n w=0):=c;have d:Hid (bM a n=k):=g;obtain⟨B,C⟩:=h.name k (by omega);have y:=h.free;clear c g;go_enter func33,ntmps33;go_wp2_with fail;refine(oh n w _ m l).mono ?_;rintro e i ⟨rfl,rfl⟩;rw[j.out];go_wp2_with fail;refine(ma D x a b n _ (by exact h.kept ((aa.refl [] _).alloc _) (by simp))).mono ?_;rintro e i ⟨rfl,rfl⟩;rw[d.out];go_wp2_with fail;go_region
   all_goals go_wp2
   all_goals go_ret
   exact⟨au (by rw[f.out]),by rw[f.out];exact(h.turned n w k z).kept ((aa.refl [] _).alloc _ |>.drew) (by simp),(((aa.refl _ _).setCell (R4 (by simp)) _).setCell (R4 (by simp)) _).alloc _ |>.drew⟩
 ·have f:Hid (fm a n w=(dc n w,a)):=by show fm a n w=_;simp[fm,c]
  have v:(dc n w != 0)=true:=by simp[c]
  clear c;go_enter func33,ntmps33;go_wp2_with fail;refine(oh n w _ m l).mono ?_;rintro e i ⟨rfl,rfl⟩;go_wp2;go_ret;exact⟨au (by rw[f.out]),by rw[f.out];exact h,aa.refl _ _⟩
structure Hd where
 ao:Option Addr
 cap:Nat
def Hd.blk(h:Hd):Option Nat:=h.ao.map (·.block)
structure eB where
 e:TypeId
 size:Nat
 n:Nat
 xs:List Value
def aC(w:World)(h:Hd)(r:eB):Prop:=w.ownsRow 0 r.e r.size (slice h.ao r.n h.cap) r.n r.xs
theorem AS(h:Hd)(n:Nat):(slice h.ao n h.cap).ownBlock=h.blk:=by
 unfold Hd.blk;cases h.ao <;> rfl
theorem aC.lt{h:Hd}{r:eB}(o:aC b h r){k:Nat}(a:h.blk=some k):k<b.heap.size :=
 (World.ownsRow.lt (h:=o) k (by rw[AS];exact a)).2
theorem aC.Wo{w':World}{h:Hd}{r:eB}(o:aC b h r)(p:∀k,h.blk=some k->w'.heap[k]?=b.heap[k]?):aC w' h r:=by
 refine⟨o.1,?_⟩;rcases o.2 with n | ⟨g,c,d,a,l,m,e,f,i,j⟩
 ·exact R4 n
 ·refine RZ ⟨g,c,d,a,l,?_,e,f,i,j⟩;rw[p g (by unfold Hd.blk;injection a with a;rw[a];rfl)];exact m
theorem aC.Wu{h:Hd}{r:eB}(o:aC b h r) :
  (h=⟨none,0⟩/\r.n=0/\r.xs=[])∨∃g a,h.ao=some ⟨g,0,none⟩/\b.heap[g]?=some (.cells a r.e)/\r.n<=h.cap/\h.cap<=maxLen/\a.size=h.cap*r.size/\a.toList.take (r.n*r.size)=r.xs:=by
 rcases o.2 with ⟨c,i⟩ | ⟨g,k,a,c,t,s,l,m,p,q⟩
 ·left
  injection c with d j f
  refine⟨by cases h;simp_all,i,Sw (by rw[o.1,i];simp)⟩
 ·right
  injection c with d j f
  subst f;exact⟨g,a,d,s,l,m,p,q⟩
theorem bS:(⟨o,0,none⟩:Addr).add H=⟨o,H,none⟩:=by
 simp only[Addr.add];split
 ·next h=>subst h;rfl
 ·simp
theorem aC.cell{h:Hd}{r:eB}(o:aC b h r)(a:h.ao=some ⟨l,0,none⟩)(j:Nat)(u:Value)(c:r.xs[j]?=some u):b.cell? ⟨l,j,none⟩=some u:=by
 have:=o.cells (g:=l) (by rw[AS];unfold Hd.blk;rw[a];rfl) j u c;rw[bS]at this;exact this
theorem aO{A:List Oper}(Q:m.guard=none)(s x:Operand)(t:TypeId)(D:m.op=Op.call { callee:=Callee.builtin Builtin.append,args:=#[s,x],argTypes:=#[t,t] })(i:TypeInfo)(z:Value)(f:Nat)(h:Hd)(r:eB)(K:g.underlying t=some (.slice r.e))(L:g.info? r.e=some i)(h3:i.zero=some z)(M:i.size=r.size)(h5:i.bytes=f)(h6:z.cells.size=r.size)(h7:0<r.size)(S:z1.eval s=slice h.ao r.n h.cap)(o:aC T h r)(F:Addr)(v c:Nat)(d:List Value)(U:z1.eval x=slice (some F) v c)(R:d.length=v*r.size)(P:∀j u,d[j]?=some u->T.cell? (F.add j)=some u)(C:∀u∈d,u.oneCell'=true)(hm:0<v)(b1:r.n+v<=maxLen)(I:(r.n+v)*f<=140737488355328)(N:∀p a y,aC y ⟨some ⟨p,0,none⟩,a⟩ ⟨r.e,r.size,r.n+v,r.xs++d⟩->T.grownBy y h.blk->(h.blk=some p∨T.heap.size<=p)->wpList g zb y2 A (z1.put m.dst (slice (some ⟨p,0,none⟩) (r.n+v) a)) y) :
  wpList g zb y2 (m :: A) z1 T:=by
 rcases o.Wu with ⟨w,B,J⟩ | ⟨p,G,w,B,J,e4,e5,e6⟩
 ·refine wpList_append_grows T Q s x t D r.e i z r.size f K L h3 M h5 h6 h7 none 0 0 [] (by rw[S,w,B]) (fun _=>⟨rfl,rfl⟩) (by simp) (by intro b O;cases O) F v c d U R P C (by omega) (by omega) (by rw[B]at I;exact I) ?_;intro v' y E l;rcases E.2 with ⟨_,q⟩ | ⟨p,a,G,V,W,X,Y,Z,q6,q7⟩
  ·omega
  ·have:=N p a y ⟨by have:=E.1;simpa [J,B] using this,RZ ⟨p,a,G,by simp,SE _,X,by simpa [B] using Y,Z,q6,by simpa [B,J] using q7⟩⟩ (by rw[w];exact l) (RZ W);rw[V];simpa [B] using this
 ·by_cases hf:r.n+v<=h.cap
  ·refine wpList_append_fits T Q s x t D 0 r.e i r.size K L M p r.n h.cap r.xs (by rw[S,w]) (by have:=o;unfold aC at this;rw[w]at this;exact this) F v c d U R P C hf ?_;intro y E l;exact N p h.cap y E (by unfold Hd.blk;rw[w];exact l) (R4 (by unfold Hd.blk;rw[w];rfl))
  ·refine wpList_append_grows T Q s x t D r.e i z r.size f K L h3 M h5 h6 h7 (some ⟨p,0,none⟩) r.n h.cap r.xs (by rw[S,w]) (by intro hh;cases hh) o.1 (by intro b O j u hj;cases O;rw[bS];exact o.cell w j u hj) F v c d U R P C (by omega) b1 I ?_;intro v' y E l;rcases E.2 with ⟨_,q⟩ | ⟨g',a,H,V,W,X,Y,Z,q6,q7⟩
   ·omega
   ·have:=N g' a y ⟨E.1,RZ ⟨g',a,H,rfl,SE _,X,Y,Z,q6,q7⟩⟩ ⟨l.os,l.tape,l.output,l.size,fun k hk _=>l.block k hk (by simp)⟩ (RZ W);rw[V];exact this
theorem yD{P:Program}(p F G c:TypeId)(g f a:Nat)(h:Hd)(r:eB)(b:Array Value)(t:TypeId)(E:P.underlying p=some (.slice c))(q:(P.info? c).map (·.size)=some a)(C:r.size=a)(y:T.heap[g]?=some (.cells b t))(l:aC T h r)(D:b.size=r.n*a)(x:∀v∈r.xs,v.oneCell'=true) :
  (Builtin.copy_ #[p,F] G #[slice (some ⟨g,0,none⟩) r.n f,slice h.ao r.n h.cap]).run P T=.ok (goInt r.n) (T.setRow g r.xs.toArray):=by
 have B:r.xs.length=r.n*a:=by have:=l.1;rw[C]at this;exact this
 have d:=run_storeCells_at P g 0 t r.xs 0 b T y (by simp;omega) x;have s:(b.toList.take (0+0)++r.xs++b.toList.drop (0+0+r.xs.length))=r.xs:=by
  simp;omega
 rw[s]at d;have k:(Builtin.firstCells a r.n (slice h.ao r.n h.cap)).run P T=.ok r.xs.toArray T:=by
  rcases l.Wu with ⟨e,H,u⟩ | ⟨w,o,e,_⟩
  ·rw[e,u];exact run_firstCells_none T _ _ _ _
  ·rw[e];exact run_firstCells_some T a r.n ⟨w,0,none⟩ r.n h.cap r.xs B (fun j v A=>by rw[bS];exact l.cell e j v A)
 cases m:P.info? c with
 | none=>simp[m]at q
 | some i =>
  have z:i.size=a:=by simpa [m] using q
  simp[Builtin.copy_,run_underlying E,Builtin.lenOf,sizeOf,typeInfo,m,z,k,d]
theorem vo(h:aa y b S)(a:l∈y∨b.heap.size<=l)(c:Array Value):aa y b (S.setRow l c) :=
 ⟨h.os,h.tape,h.output,by have:=h.size;simp[World.setRow];omega,fun k e d=>by
  rw[setRow_other S l k c (by rintro rfl;exact a.elim d (fun a=>by omega))];exact h.block k e d⟩
theorem qD{P:Program}(d j k:TypeId)(g b:Nat)(h:Hd)(r:eB)(a:Array Value)(t:TypeId)(p:P.underlying d=some (.slice r.e))(o:(P.info? r.e).map (·.size)=some r.size)(i:T.heap[g]?=some (.cells a t))(m:aC T h r)(f:a.size=r.n*r.size)(l:∀v∈r.xs,v.oneCell'=true) :
  ∃c,(Builtin.copy_ #[d,j] k #[slice (some ⟨g,0,none⟩) r.n b,slice h.ao r.n h.cap]).run P T=.ok (goInt r.n) c/\c.heap[g]?=some (.cells r.xs.toArray t)/\aa [g] T c/\c.heap.size=T.heap.size :=
 ⟨_,yD (P:=P) T d j k r.e g b r.size h r a t p o rfl i m f l,setRow_heap T g _ _ t _ i,vo (aa.refl _ _) (R4 (by simp)) _,by simp[World.setRow]⟩
theorem aC.made{r:eB}(c:b.heap[l]?=some (.cells r.xs.toArray r.e))(a:r.xs.length=r.n*r.size)(d:r.n<=maxLen):aC b ⟨some ⟨l,0,none⟩,r.n⟩ r :=
 ⟨a,RZ ⟨l,r.n,r.xs.toArray,rfl,SE _,c,RV _,d,by simpa using a,by simp[<-a]⟩⟩
theorem qt{P:Program}(t C:TypeId)(i:TypeInfo)(z:Value)(d:Nat)(h:Hd)(r:eB)(F:P.underlying t=some (.slice r.e))(G:P.info? r.e=some i)(U:i.zero=some z)(H:i.size=r.size)(V:i.bytes=d)(W:z.cells.size=r.size)(X:0<r.size)(o:aC T h r)(x:Addr)(m c:Nat)(b:List Value)(J:b.length=m*r.size)(I:∀j u,b[j]?=some u->T.cell? (x.add j)=some u)(B:∀u∈b,u.oneCell'=true)(hm:0<m)(Y:r.n+m<=maxLen)(D:(r.n+m)*d<=140737488355328) :
  ∃g a s,(Builtin.append_ #[t,t] C #[slice h.ao r.n h.cap,slice (some x) m c]).run P T=.ok (slice (some ⟨g,0,none⟩) (r.n+m) a) s /\
   aC s ⟨some ⟨g,0,none⟩,a⟩ ⟨r.e,r.size,r.n+m,r.xs++b⟩/\T.grownBy s h.blk/\(h.blk=some g∨T.heap.size<=g):=by
 rcases o.Wu with ⟨p,w,E⟩ | ⟨g,y,p,w,E,e4,e5,e6⟩
 ·obtain⟨v',s,l,v,f,_⟩:=run_append_own (P:=P) T T.heap.size t C r.e i z r.size d F G U H V W X (slice none 0 0) 0 [] (Sb T _ r.e r.size) x m c b J I B (by omega) (by rw[w]at D;exact D) (RV _);rcases v.2 with ⟨_,q⟩ | ⟨g,a,y,K,L,M,N,O,Q,R⟩
  ·omega
  ·refine⟨g,a,s,?_,⟨by have:=v.1;simpa [E,w] using this,RZ ⟨g,a,y,by simp,SE _,M,by simpa [w] using N,O,Q,by simpa [w,E] using R⟩⟩,?_,RZ L⟩
   ·rw[p,w,l,K]
   ·rw[p];exact f
 ·by_cases Z:r.n+m<=h.cap
  ·obtain⟨s,l,v,f⟩:=run_append_fits (P:=P) T 0 t C r.e i r.size F G H g r.n h.cap r.xs (by have:=o;unfold aC at this;rw[p]at this;exact this) x m c b J I B Z;exact⟨g,h.cap,s,by rw[p,l],v,by unfold Hd.blk;rw[p];exact f,R4 (by unfold Hd.blk;rw[p];rfl)⟩
  ·obtain⟨v',s,l,v,f⟩:=run_append_arg_grows (P:=P) T t C r.e i z r.size d F G U H V W X ⟨g,0,none⟩ r.n h.cap r.xs o.1 (by intro j u hj;rw[bS];exact o.cell p j u hj) x m c b J I (by omega) Y D;rcases v.2 with ⟨_,q⟩ | ⟨S,a,A,K,L,M,N,O,Q,R⟩
   ·omega
   ·exact⟨S,a,s,by rw[p,l,K],⟨v.1,RZ ⟨S,a,A,rfl,SE _,M,N,O,Q,R⟩⟩,⟨f.os,f.tape,f.output,f.size,fun k hk _=>f.block k hk (by simp)⟩,RZ L⟩
theorem cO{K:Act->World->Prop}{E:Prop}(N:m.guard=none)(s x:Operand)(t:TypeId)(y:m.op=Op.call { callee:=Callee.builtin Builtin.append,args:=#[s,x],argTypes:=#[t,t] })(i:TypeInfo)(z:Value)(d:Nat)(h:Hd)(r:eB)(C:g.underlying t=some (.slice r.e))(D:g.info? r.e=some i)(F:i.zero=some z)(G:i.size=r.size)(H:i.bytes=d)(I:z.cells.size=r.size)(J:0<r.size)(Q:z1.eval s=slice h.ao r.n h.cap)(o:aC b h r)(v:Addr)(k c:Nat)(a:List Value)(S:z1.eval x=slice (some v) k c)(P:a.length=k*r.size)(M:∀j u,a[j]?=some u->b.cell? (v.add j)=some u)(w:∀u∈a,u.oneCell'=true)(O:0<k)(A:r.n+k<=maxLen)(B:(r.n+k)*d<=140737488355328)(L:∀l f q,aC q ⟨some ⟨l,0,none⟩,f⟩ ⟨r.e,r.size,r.n+k,r.xs++a⟩->b.grownBy q h.blk->(h.blk=some l∨b.heap.size<=l)->K (z1.put m.dst (slice (some ⟨l,0,none⟩) (r.n+k) f)) q) :
  if Region.wanted m (yielded zb z1.tmps)=true then Oper.wp g m z1 b K y2 else E:=by
 have R:Region.wanted m (yielded zb z1.tmps)=true:=by simp[Region.wanted,N]
 rw[RY R];obtain⟨l,f,q,p,T,U,V⟩:=qt (P:=g) b t m.type i z d h r C D F G H I J o v k c a P M w O A B;unfold Oper.wp;simp[execOp,y,resolve,invoke,builtin,Q,S,p,Result.andThen];exact L l f q T U V
theorem dH{P:Program}(t e:TypeId)(i:TypeInfo)(z:Value)(f:P.underlying t=some (.slice e))(d:P.info? e=some i)(g:i.zero=some z)(n a:Nat)(b:i.size=a)(c:i.bytes*n<=281474976710656)(j:n<=1073741824) :
  (Instr.makeSlice t (int i64 n) (int i64 n)).run P T=.ok (slice (some ⟨T.heap.size,0,none⟩) n n) (T.alloc (.cells (madeCells z.cells (n*a)) e)):=by
 have:=run_make (P:=P) T t e i z f d g i64 i64 n n (by omega) (UX _) (by have:=Int.ofNat_le.2 c;rw[Int.natCast_mul]at this;exact this) (by omega);simpa [b] using this
def je(w:World)(x:Nat)(fs:Fs)(rep:Bool)(a b c:Value):Prop:=bF w x 80 fs [bool rep,a,b,c]
def OB:Value:=slice none 0 0
def kg(w:World)(x:Nat)(fs:Fs):Prop:=je w x fs false OB OB OB
def lE(w:World)(x:Nat)(fs:Fs):Prop:=∃rep a b c,je w x fs rep a b c
theorem kg.anyR{a:Fs}(h:kg b l a):lE b l a:=⟨_,_,_,_,h⟩
theorem je.anyR{c:Fs}(h:je b l c z2 a i L):lE b l c:=⟨_,_,_,_,h⟩
theorem kg.kept{a:Fs}(h:kg b l a)(k:aa y b S)(c:l∉y):kg S l a:=bF.kept h k c
theorem lE.kept{d:Fs}(h:lE b l d)(k:aa y b S)(f:l∉y):lE S l d:=by
 obtain⟨r,a,e,c,h⟩:=h;exact⟨r,a,e,c,bF.kept h k f⟩
theorem lE.lt{d:Fs}(h:lE b l d):l<b.heap.size:=by
 obtain⟨r,a,e,c,h⟩:=h;exact bF.lt h
theorem je.cells{c:Fs}(h:je b l c z2 a i L) :
  b.cell? ⟨l,9,none⟩=some (bool z2)/\b.cell? ⟨l,10,none⟩=some a/\b.cell? ⟨l,11,none⟩=some i/\b.cell? ⟨l,12,none⟩=some L:=by
 refine⟨?_,?_,?_,?_⟩ <;> (rw[aj h.1];rfl)
def DD(w:World)(x:Nat)(rep:Bool)(a b c:Value):World:=(((w.setCell ⟨x,9,none⟩ (bool rep)).setCell ⟨x,10,none⟩ a).setCell ⟨x,11,none⟩ b).setCell ⟨x,12,none⟩ c
theorem je.turn{g:Fs}(h:je b l g z2 a i L)(c:Bool)(d e f:Value):je (DD b l c d e f) l g c d e f:=by
 refine⟨?_,h.2⟩;unfold DD;rw[ah (ah (ah (ah h.1 9 (bool c)) 10 d) 11 e) 12 f];rfl
theorem FR(h:aa y b S)(d:l∈y∨b.heap.size<=l)(e:Bool)(a f c:Value):aa y b (DD S l e a f c) :=
 (((h.setCell d _).setCell d _).setCell d _).setCell d _
theorem Oz:Calls prog 28 #[] T fun e a=>e=returned (pointer (some ⟨T.heap.size,0,none⟩))/\kg a T.heap.size []/\aa [] T a:=by
 go_enter func28,ntmps28;go_wp2;go_ret;exact⟨rfl,⟨R2 _ _,by simp⟩,(aa.refl _ _).alloc _⟩
theorem wJ(f:Fs)(w:World)(h:lE w H f) :
  Calls prog 34 #[pointer (some ⟨H,0,none⟩)] w fun e g=>e=returned (tuple #[])/\kg g H f/\aa [H] w g:=by
 obtain⟨m,a,b,c,h⟩:=h;obtain⟨n,i,j,k⟩:=h.cells;have o:=bF.free h;have d:Hid _:=h.turn false (slice none 0 0) (slice none 0 0) (slice none 0 0);unfold DD at d;have l:=bF.lt h;go_enter func34,ntmps34;go_wp2;go_end0;exact⟨rfl,d.out,FR (aa.refl _ _) (R4 (by simp)) _ _ _ _⟩
theorem NE(f:Fs)(j:World)(h:lE j x f)(v:n.size<=1073741824)(t:w.size<=4294967296) :
  Calls prog 15 #[pointer (some ⟨x,0,none⟩),string n,string w] j fun e o=>e=returned (int i64 (fm f n w).1)/\lE o x (fm f n w).2/\((fm f n w).1=0->kg o x (fm f n w).2)/\aa [x] j o:=by
 obtain⟨i,a,b,c,h⟩:=h;have p:=G1 x 80 n w f [bool i,a,b,c] j h v t;have d:Hid _:=p;clear p;generalize fm f n w=y at *;obtain⟨s,k⟩:=y;simp only at d ⊢;cases u:(s==0)
 ·go_enter func15,ntmps15;go_wp2_with fail;refine R0 d.out ?_;rintro e r ⟨rfl,l,g⟩;go_wp2;go_ret;exact⟨rfl,⟨i,a,b,c,l⟩,fun e=>by subst e;simp at u,g⟩
 ·go_enter func15,ntmps15;go_wp2_with fail;refine R0 d.out ?_;rintro e r ⟨rfl,l,g⟩;go_wp2_with fail;refine(wJ x k r ⟨i,a,b,c,l⟩).mono ?_;rintro e z ⟨rfl,q,m⟩;go_wp2;go_ret;exact⟨rfl,q.anyR,fun _=>q,g.trans m⟩
def cQ(f:Nat->Int):Nat->Int
 | 0=>0
 | n+1=>if(cQ f n==0)=true then f n else cQ f n
theorem mM{n:Nat}(a:cQ z4 l=0)(h:(z4 l==0)=false)(c:l<n):cQ z4 n=z4 l:=by
 induction n with
 | zero=>omega
 | succ n b =>
  rw[cQ];by_cases e:l=n
  ·subst e;rw[a];rfl
  ·rw[b (by omega),RU (by rw[h];simp)]
def DQ(fs:Fs)(i:Nat):Int:=if(dc (aD fs i) (ak fs i)==0)=false then dc (aD fs i) (ak fs i) else if 0<=bM (fs.take i) (aD fs i) then 4 else 0
def dF(fs:Fs):Int:=if 4<fs.length then 1 else cQ (DQ fs) fs.length
def jK(fs0 fs:Fs):Fs:=if dF fs=0 then fs else fs0
theorem p9{fs0 a:Fs}(h:dF a=z7)(b:z7≠0):jK fs0 a=fs0:=by unfold jK;rw[RU (by rw[h];exact b)]
theorem zo{fs0 a:Fs}(h:dF a=0):jK fs0 a=a:=by unfold jK;rw[RY h]
theorem Qo{n:Nat}(h:cQ z4 n=0):∀i,i<n->z4 i=0:=by
 induction n with
 | zero=>intro i b;omega
 | succ n c =>
  rw[cQ]at h;split at h
  ·next a =>
   intro i b;by_cases e:i=n
   ·rw[e];exact h
   ·exact c (Vc a) i (by omega)
  ·next a=>rw[h]at a;exact absurd rfl a
theorem Ow{a:Fs}(h:dF a=0):a.length<=4/\∀j,j<a.length->(ak a j).size<=1024:=by
 unfold dF at h;split at h
 ·cases h
 ·refine⟨by omega,fun j c=>?_⟩;have b:=Qo h j c;unfold DQ at b;split at b
  ·next e=>rw[b]at e;cases e
  ·next e =>
   unfold dc at e;split at e
   ·exact absurd rfl e
   ·split at e
    ·exact absurd rfl e
    ·omega
def lr(fs:Fs):Prop:=∀j,(aD fs j).size<=1073741824/\(ak fs j).size<=1073741824
theorem Ax:(prog.info? 68).map (fun i=>(i.zero,i.size,i.bytes))=some (some (agg #[string ⟨#[]⟩,string ⟨#[]⟩]),2,32):=by kernel_rfl
def Pt(f:ByteArray×ByteArray):List Value:=[string f.1,string f.2]
def ri(fs:Fs):List Value:=fs.flatMap Pt
def cK(fs:Fs):eB:=⟨68,2,fs.length,ri fs⟩
theorem vT(a:Fs):(ri a).length=a.length*2:=by
 induction a with
 | nil=>rfl
 | cons t L b=>rw[ri,SZ,R9,show L.flatMap Pt=ri L from rfl,b];simp[Pt];omega
theorem wQ(b:Fs)(j:Nat)(h:j<b.length):(ri b)[j*2]?=some (string (aD b j))/\(ri b)[j*2+1]?=some (string (ak b j)):=by
 induction b generalizing j with
 | nil=>simp at h
 | cons a L f =>
  have e:ri (a :: L)=string a.1 :: string a.2 :: ri L:=rfl;cases j with
  | zero=>exact⟨rfl,rfl⟩
  | succ j =>
   obtain⟨c,d⟩:=f j (by simpa using h);rw[e,show(j+1)*2=j*2+1+1 by omega];exact⟨c,d⟩
theorem GH(b:Fs)(k:Nat)(n d:ByteArray)(h:k<b.length):((ri b).set (k*2) (string n)).set (k*2+1) (string d)=ri (b.set k (n,d)):=by
 induction b generalizing k with
 | nil=>simp at h
 | cons a L c =>
  have e:∀x:ByteArray×ByteArray,ri (x :: L)=string x.1 :: string x.2 :: ri L:=fun _=>rfl;cases k with
  | zero=>rfl
  | succ k =>
   rw[TZ,show(k+1)*2=k*2+1+1 by omega,e];show _=string a.1 :: string a.2 :: ri (L.set k (n,d));rw[<-c k (by simpa using h)];rfl
theorem xD(a:Fs)(t:ByteArray×ByteArray):(⟨(cK a).e,(cK a).size,(cK a).n+1,(cK a).xs++Pt t⟩:eB)=cK (a++[t]):=by
 simp[cK,ri]
theorem GG(a:Fs):∀u∈ri a,u.oneCell'=true:=by
 intro u b;obtain⟨x,-,h⟩:=Ua.1 b;unfold Pt at h;simp only[List.mem_cons,List.not_mem_nil,or_false]at h;rcases h with rfl | rfl <;> rfl
structure It where
 B:List Nat
 P:World->Prop
 lt:∀w,P w->∀b,b∈B->b<w.heap.size
 ok:∀S w w',P w->aa S w w'->(∀b,b∈B->b∉S)->P w'
def fw(I:Nat×Nat->It)(k:Nat×Nat)(it:It):Nat×Nat->It:=fun q=>if q=k then it else I q
theorem bP(I:Nat×Nat->It)(k:Nat×Nat)(a:It):fw I k a k=a:=by unfold fw;rw[RY rfl]
theorem RM(I:Nat×Nat->It){k q:Nat×Nat}(a:It)(h:q≠k):fw I k a q=I q:=by unfold fw;rw[RU h]
theorem bu(h:l≠zt):((l,f):Nat×Nat)≠(zt,y0):=fun e=>h (by cases e;rfl)
theorem rV(h:f≠y0):((l,f):Nat×Nat)≠(zt,y0):=fun e=>h (by cases e;rfl)
structure oN(w:World)(I:Nat×Nat->It):Prop where
 all:∀k,(I k).P w
 far:∀k k',k≠k'->∀b,b∈(I k).B->b∉(I k').B
theorem oN.Wj{I:Nat×Nat->It}(h:oN b I)(k:aa [] b S):oN S I :=
 ⟨fun q=>(I q).ok [] b S (h.all q) k (fun _ _ a=>by cases a),h.far⟩
theorem oN.put{I:Nat×Nat->It}(h:oN b I)(k:Nat×Nat)(f:It)(K:aa (I k).B b S)(n:f.P S)(m:∀a,a∈f.B->a∈(I k).B∨b.heap.size<=a):oN S (fw I k f):=by
 refine⟨fun q=>?_,fun q g j a c d=>?_⟩
 ·by_cases e:q=k
  ·subst e;rw[bP];exact n
  ·rw[RM I f e];exact(I q).ok _ b S (h.all q) K (fun a c=>h.far q k e a c)
 ·by_cases e:q=k
  ·subst e;rw[bP]at c;rw[RM I f (Ne.symm j)]at d;rcases m a c with i | i
   ·exact h.far q g j a i d
   ·have:=(I g).lt b (h.all g) a d;omega
  ·rw[RM I f e]at c;by_cases l:g=k
   ·subst l;rw[bP]at d;rcases m a d with i | i
    ·exact h.far q g j a c i
    ·have:=(I q).lt b (h.all q) a c;omega
   ·rw[RM I f l]at d;exact h.far q g j a c d
theorem oN.put2{I:Nat×Nat->It}(h:oN b I)(d e:Nat×Nat)(A:d≠e)(k l:It)(K:aa ((I d).B++(I e).B) b S)(D:k.P S)(E:l.P S)(y:∀a,a∈k.B->a∈(I d).B∨b.heap.size<=a)(z:∀a,a∈l.B->a∈(I e).B∨b.heap.size<=a)(v:∀a,a∈k.B->a∉l.B):oN S (fw (fw I d k) e l):=by
 have f:∀q,q≠d->q≠e->∀a,a∈(I q).B->a∉k.B/\a∉l.B:=fun q g c a n=>by
  have:=(I q).lt b (h.all q) a n;refine⟨fun x=>?_,fun x=>?_⟩
  ·rcases y a x with r | r
   ·exact h.far q d g a n r
   ·omega
  ·rcases z a x with r | r
   ·exact h.far q e c a n r
   ·omega
 have t:fw (fw I d k) e l d=k:=by rw[RM _ _ A,bP]
 have u:fw (fw I d k) e l e=l:=bP _ _ _;have p:∀q,q≠d->q≠e->fw (fw I d k) e l q=I q:=fun q g c=>by rw[RM _ _ c,RM _ _ g]
 refine⟨fun q=>?_,fun q j s a g c=>?_⟩
 ·by_cases m:q=d
  ·subst m;rw[t];exact D
  ·by_cases i:q=e
   ·subst i;rw[u];exact E
   ·rw[p q m i];exact(I q).ok _ b S (h.all q) K (fun a n C=>(SB.1 C).elim (h.far q d m a n) (h.far q e i a n))
 ·by_cases m:q=d
  ·subst m;rw[t]at g;by_cases i:j=e
   ·subst i;rw[u]at c;exact v a g c
   ·rw[p j (Ne.symm s) i]at c;exact(f j (Ne.symm s) i a c).1 g
  ·by_cases i:q=e
   ·subst i;rw[u]at g;by_cases o:j=d
    ·subst o;rw[t]at c;exact v a c g
    ·rw[p j o (Ne.symm s)]at c;exact(f j o (Ne.symm s) a c).2 g
   ·rw[p q m i]at g;by_cases o:j=d
    ·subst o;rw[t]at c;exact(f q m i a g).1 c
    ·by_cases w:j=e
     ·subst w;rw[u]at c;exact(f q m i a g).2 c
     ·rw[p j o w]at c;exact h.far q j s a g c
structure Tk where
 s:ByteArray
 rule:Int
 file:ByteArray
 line:Int
 col:Int
def Bv(t:Tk):List Value:=[string t.s,int i64 t.rule,string t.file,int i64 t.line,int i64 t.col]
def QF(L:List Tk):List Value:=L.flatMap Bv
def iV(L:List Tk):eB:=⟨138,5,L.length,QF L⟩
theorem QA(L:List Tk)(j:Nat)(t:Tk)(h:L[j]?=some t)(c:Nat)(d:c<5):(QF L)[j*5+c]?=(Bv t)[c]?:=by
 induction L generalizing j with
 | nil=>cases h
 | cons a L b =>
  have e:QF (a :: L)=Bv a++QF L:=rfl;cases j with
  | zero =>
   simp at h;subst h;rw[e,Si (by simp[Bv];omega)];simp
  | succ j =>
   rw[e,Sf (by simp[Bv];omega),show(j+1)*5+c-(Bv a).length=j*5+c by simp[Bv];omega];exact b j (by simpa using h)
theorem zx(L:List Tk)(t:Tk):(⟨(iV L).e,(iV L).size,(iV L).n+1,(iV L).xs++Bv t⟩:eB)=iV (L++[t]):=by
 simp[iV,QF]
def dx(d:ByteArray):Nat->Nat
 | 0=>0
 | i+1=>if da (aH d i)=true then i+1 else dx d i
def mJ(nm d:ByteArray)(s:ByteArray)(r:Int)(k:Nat):Tk:=⟨s,r,nm,aR d k,bC d k⟩
def jA(nm d:ByteArray)(a z:Nat)(L:List Tk):List Tk:=if a=z then L else L++[mJ nm d (d.extract a z) 0 a]
def jz(nm d:ByteArray):Nat->List Tk
 | 0=>[]
 | i+1=>if da (aH d i)=true then jA nm d (dx d i) i (jz nm d i) else jz nm d i
def rg(n:Int):Bool:=!fI n && !da n
def jZ(d:ByteArray):Option Nat:=(List.range d.size).find? (fun i=>rg (aH d i))
def iA(nm d:ByteArray):List Tk:=match jZ d with
 | some i=>jz nm d i++[mJ nm d ⟨#[]⟩ 1 i]
 | none=>jA nm d (dx d d.size) d.size (jz nm d d.size)++[mJ nm d ⟨#[]⟩ 0 d.size]
theorem oI(i:Nat):dx w i<=i:=by
 induction i with
 | zero=>exact RV _
 | succ i a=>rw[dx];split <;> omega
theorem uW(L:List Tk):(jA n w o H L).length<=L.length+1:=by
 unfold jA;split <;> simp
theorem x9(i:Nat):(jz n w i).length<=i:=by
 induction i with
 | zero=>exact RV _
 | succ i a =>
  rw[jz];split
  ·have:=uW n w (dx w i) i (jz n w i);omega
  ·omega
theorem zU:(iA n w).length<=w.size+2:=by
 unfold iA;split
 ·next i h =>
  have:=Sd.1 (SU h);have:=x9 n w i;simp;omega
 ·have:=uW n w (dx w w.size) w.size (jz n w w.size);have:=x9 n w w.size;simp;omega
def sA(s u:ByteArray)(i:Nat):Bool:=((s.extract i (i+u.size)).toList==u.toList)
def gW(s u:ByteArray):Bool:=(List.range (s.size+1)).any (fun i=>decide (i+u.size<=s.size)&&sA s u i)
def DP(t:ByteArray)(l:List UInt8):Bool:=(t.toList==l)
def bV:Bool->List Tk->List Tk
 | _,[]=>[]
 | false,t :: r=>if DP t.s [36,40]=true then bV true r else t :: bV false r
 | true,t :: r =>
  if(t.rule==0)=false then t :: bV true r
  else if DP t.s [36,41]=true then bV false r
  else if DP t.s []=true then⟨⟨#[]⟩,3,t.file,t.line,t.col⟩ :: bV true r
  else if(gW t.s ⟨#[36,40]⟩||gW t.s ⟨#[36,41]⟩)=true then [⟨⟨#[]⟩,2,t.file,t.line,t.col⟩]
  else bV true r
theorem Ls(b:Bool)(L:List Tk):(bV b L).length<=L.length:=by
 induction L generalizing b with
 | nil=>cases b <;> simp[bV]
 | cons t L a =>
  have c:=a true;have d:=a false;cases b
  ·rw[bV];split <;> simp <;> omega
  ·rw[bV]
   repeat' split
   all_goals (simp;try omega)
end Go.Proofs.YtnbhnocdhbcbcaaGreat
