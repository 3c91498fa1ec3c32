import Derived.Test.YtnbhnocdhbcbcaaGreatChecked
import Derived.WalkKit
import Derived.WalkSpells
import Derived.WalkLawsBesides
import Derived.Deep.QuietTactic
import Derived.BigQuiet
import Derived.Deep.LoopGhost
import Derived.Laws.CopyRow
import Derived.Laws.MakeOwn
import Derived.Deep.RegionLaw
import Derived.Deep.RegionHeld3
import Derived.Deep.CutRange
namespace Go.Proofs.YtnbhnocdhbcbcaaGreat
open Go.RowKit Tryz
open Value IntKind Ending
set_option maxHeartbeats 0
abbrev Xs:=ByteArray
abbrev Xt:=List ByteArray
abbrev Xu:=Option Addr
abbrev Xv:=List Nat
variable{x:Xv}{w T:World}{l f y4 y5:Nat}{g:Array Value}{y6:Obj}{m:Program}{i D M z4 z7 y1:Value}{z6:Bool}{y2:Int}{N a:Xs}{L:List Value}{y3:Array Oper}{s:Oper}{z5:Act}{y7:Exit->Act->World->Prop}{zt:Nat->Int}(d:Xs)(I y:Nat)(n b:Xs)(y0:Int)(S:World)(v H:Nat)
def Xr(p:Prop):Prop:=p
theorem Xr.o{p:Prop}(h:Xr p):p:=h
abbrev Tn:=@List.getElem?_eq_getElem
abbrev To:=@List.getD_eq_getElem?_getD
abbrev Tp:=@if_neg
abbrev Tq:=@Nat.le_refl
abbrev Tr:=@if_pos
abbrev Ts:=@Go.Calls.mono
abbrev Tu:=@Go.heap_alloc_new
abbrev Tv:=@List.length_append
abbrev Tw:=@Nat.lt_of_lt_of_le
abbrev Ty:=@Go.World.ownsRow_nil
abbrev Tz:=@Go.bodyPost_ret
abbrev TA:=@List.getElem?_eq_some_iff
abbrev TE:=@Or.inr
abbrev TF:=@Nat.le_trans
abbrev TG:=@List.mem_range
abbrev TH:=@Or.inl
abbrev TI:=@List.mem_singleton
abbrev TJ:=@List.getElem?_append_right
abbrev TM:=@Go.RowKit.Below.heap_setCell
abbrev TN:=@Bool.and_eq_true
abbrev TO:=@Go.World.cell?_of_block
abbrev TP:=@List.getElem_mem
abbrev TQ:=@List.getElem?_append_left
abbrev TR:=@Nat.one_pos
abbrev TT:=@List.length_map
abbrev TU:=@beq_eq_false_iff_ne
abbrev TV:=@List.drop_eq_getElem_cons
abbrev TY:=@List.append_nil
abbrev TZ:=@Go.info_parts
abbrev T0:=@Go.Calls.quiet_of_same
abbrev Ua:=@List.getElem?_map
abbrev Ub:=@List.mem_cons
abbrev Uc:=@Nat.zero_le
abbrev Ud:=@List.mem_cons_of_mem
abbrev Ue:=@List.mem_cons_self
abbrev Uf:=@List.eq_nil_of_length_eq_zero
abbrev Ug:=@List.mem_append
abbrev Uh:=@List.map_append
abbrev Ui:=@Bool.false_eq_true
abbrev Uj:=@List.length_cons
abbrev Uk:=@List.mem_filter
abbrev Ul:=@Bool.or_eq_true
abbrev Um:=@List.length_set
abbrev Un:=@List.getElem?_eq_none
abbrev Uo:=@Go.ByteArray.toList_eq
abbrev Up:=@List.take_succ_eq_append_getElem
abbrev Uq:=@List.length_nil
abbrev Ur:=@Int.toNat_natCast
abbrev Us:=@List.mem_of_find?_eq_some
abbrev Ut:=@List.any_eq_true
abbrev Uu:=@List.setIfInBounds_toArray
abbrev Uv:=@List.flatMap_cons
abbrev Uw:=@List.all_eq_true
abbrev Ux:=@List.length_drop
abbrev Uy:=@List.getElem_of_mem
abbrev Uz:=@Nat.sub_self
abbrev UA:=@List.getElem?_set
abbrev UB:=@Nat.le_of_lt
abbrev UC:=@List.drop_append_of_le_length
abbrev UD:=@List.mem_append_left
abbrev UE:=@List.find?_eq_none
abbrev UF:=@List.not_mem_nil
abbrev UG:=@List.mem_map
abbrev UH:=@decide_eq_true_eq
abbrev UI:=@List.filter_append
abbrev UJ:=@List.length_take
abbrev UK:=@Bool.or_eq_false_iff
abbrev UL:=@Bool.eq_iff_iff
abbrev UM:=@Nat.add_sub_cancel
abbrev UN:=@Bool.false_or
abbrev UO:=@List.take_length
abbrev UP:=@List.getElem?_replicate
abbrev UQ:=@Option.some.inj
abbrev UR:=@decide_eq_true
abbrev US:=@List.drop_of_length_le
abbrev UT:=@List.find?_range_eq_some
abbrev UU:=@List.range_succ
abbrev UV:=@List.mem_append_right
abbrev UW:=@List.take_append_of_le_length
abbrev UX:=@Go.IntKind.wrap_i64
abbrev UY:=@decide_eq_false
abbrev UZ:=@if_false
abbrev U0:=@List.mem_of_getElem?
abbrev U3:=@List.length_filter_le
abbrev U4:=@List.flatMap_append
abbrev U5:=@List.append_assoc
abbrev U6:=@Bool.true_and
abbrev U7:=@Go.size_madeCells
abbrev U8:=@List.length_range
abbrev U9:=@List.filter_cons_of_neg
abbrev Vb:=@beq_iff_eq
abbrev Vc:=@List.takeWhile_cons_of_pos
abbrev Vd:=@Bool.or_false
abbrev Ve:=@Nat.add_zero
abbrev Vf:=@List.take_of_length_le
abbrev Vg:=@List.getElem?_range
abbrev Vh:=@List.find?_some
abbrev Vi:=@List.set_cons_succ
abbrev Vj:=@List.getElem?_cons_succ
abbrev Vk:=@List.length_dropLast
abbrev Vl:=@List.mem_of_mem_take
abbrev Vm:=@List.filter_cons_of_pos
abbrev Vn:=@List.map_cons
abbrev Vo:=@Bool.true_or
abbrev Vp:=@List.foldl_append
abbrev Vq:=@List.ext_getElem?
abbrev Vr:=@Nat.zero_add
abbrev Vs:=@Bool.false_and
abbrev Vt:=@List.takeWhile_cons_of_neg
abbrev Vu:=@List.getLast?_eq_getElem?
abbrev Vv:=@or_false
abbrev Vw:=@List.set_append_right
abbrev Vx:=@List.filterMap_append
abbrev Vy:=@List.cons_append
abbrev Vz:=@List.getElem?_drop
abbrev VB:=@Go.wp_loop_rounds
abbrev VC:=@List.getLast?_eq_some_getLast
abbrev VD:=@List.getLast?_concat
abbrev VG:=@List.getElem?_cons_zero
abbrev VH:=@List.map_congr_left
abbrev VI:=@List.map_set
abbrev VJ:=@List.drop_eq_nil_of_le
abbrev VK:=@List.mem_flatMap
abbrev VL:=@Nat.mul_le_mul
abbrev VM:=@List.mem_filterMap
abbrev VN:=@List.contains_iff_mem
abbrev VO:=@List.pairwise_iff_getElem
abbrev VP:=@List.any_cons
abbrev VQ:=@List.flatMap_def
abbrev VR:=@List.take_zero
abbrev VS:=@List.length_eq_zero_iff
abbrev VT:=@Go.rounds_succ
abbrev VU:=@List.set_cons_zero
abbrev VW:=@if_true
abbrev VX:=@List.getElem?_take
abbrev VY:=@ByteArray.size_extract
abbrev VZ:=@List.filter_eq_nil_iff
abbrev V3:=@List.pairwise_lt_range
abbrev V4:=@List.nil_append
abbrev V5:=@List.dropLast_concat_getLast
abbrev V6:=@Nat.add_assoc
abbrev V7:=@Bool.or_assoc
abbrev V8:=@List.length_singleton
abbrev V9:=@List.any_eq_false
abbrev Wa:=@List.getElem_drop
abbrev Wb:=@Int.le_refl
abbrev Wc:=@List.set_append_left
abbrev Wd:=@Array.toList_setIfInBounds
abbrev We:=@List.drop_zero
abbrev Wf:=@List.mem_of_mem_drop
abbrev Wg:=@Array.toList_inj
abbrev Wh:=@LawfulBEq.eq_of_beq
abbrev Wi:=@List.length_pos_iff
abbrev Wj:=@List.mem_map_of_mem
abbrev Wk:=@List.replicate_succ
abbrev Wl:=@List.length_filterMap_le
abbrev Wm:=@Bool.not_true
abbrev Wn:=@Nat.not_lt_zero
abbrev Wo:=@Int.tmod_lt_of_pos
abbrev Wp:=@List.getElem_range
abbrev Wq:=@Nat.le_succ
abbrev Wr:=@List.all_eq_false
abbrev Ws:=@List.take_add_one
abbrev Wt:=@Go.World.drewN_drewN
abbrev Wu:=@Bool.and_assoc
abbrev Wv:=@Go.run_convert_bytes_back
abbrev Ww:=@Bool.or_true
abbrev Wx:=@Nat.lt_trichotomy
abbrev Wy:=@Array.getElem?_setIfInBounds_ne
abbrev Wz:=@List.length_replicate
abbrev WA:=@Classical.choose_spec
abbrev WB:=@List.flatMap_nil
abbrev WC:=@List.ext_getElem
abbrev WD:=@List.drop_length
abbrev WE:=@List.find?_eq_some_iff_getElem
abbrev WF:=@beq_self_eq_true
abbrev WG:=@List.map_take
abbrev WH:=@Nat.add_mul
abbrev WJ:=@List.dropLast_subset
abbrev WK:=@List.Pairwise.filter
abbrev WL:=@Int.tmod_nonneg
abbrev WM:=@List.filter_nil
abbrev WN:=@List.foldl_cons
abbrev WO:=@List.find?_cons
abbrev WP:=@Int.toNat_of_nonneg
abbrev WQ:=@List.take_succ_cons
abbrev WR:=@List.filterMap_cons
abbrev WS:=@Nat.succ_pos
abbrev WT:=@List.map_nil
abbrev WU:=@Nat.mod_two_eq_zero_or_one
abbrev WV:=@List.take_take
abbrev WW:=@Go.World.grownBy.refl
abbrev WX:=@Go.Calls.quiet_of
abbrev WY:=@List.filter_filter
abbrev WZ:=@Bool.true_eq_false
abbrev Xa:=@Option.toList_some
abbrev Xb:=@Nat.two_pos
abbrev Xc:=@List.filter_congr
abbrev Xd:=@Bool.not_eq_true'
abbrev Xe:=@of_decide_eq_true
abbrev Xf:=@List.reverse_cons
abbrev Xg:=@List.take_set
abbrev Xh:=@ByteArray.ext
abbrev Xi:=@Bool.and_comm
abbrev Xj:=@Option.getD_some
abbrev Xk:=@List.getLast?_cons_cons
abbrev Xl:=@List.filter_cons
abbrev Xm:=@Nat.lt_or_ge
abbrev Xn:=@Nat.zero_mul
abbrev Xo:=@beq_false_of_ne
abbrev Xp:=@List.any_append
abbrev Xq:=@Go.run_underlying
abbrev Xw:=@Nat.mul_one
abbrev Xx:=@Bool.not_false
abbrev Xy:=@List.cons.inj
abbrev Fs:=List (ByteArray×ByteArray)
structure ae(S:Xv)(w w':World):Prop where
 os:w'.os=w.os
 tape:w'.tape=w.tape
 output:w'.output=w.output
 size:w.heap.size<=w'.heap.size
 block:∀k,k<w.heap.size->k∉S->w'.heap[k]?=w.heap[k]?
theorem ae.refl(S:Xv)(w:World):ae S w w:=⟨rfl,rfl,rfl,Tq _,fun _ _ _=>rfl⟩
theorem ae.trans{c:World}(h:ae x w T)(k:ae x T c):ae x w c :=
 ⟨k.os.trans h.os,k.tape.trans h.tape,k.output.trans h.output,TF h.size k.size,
  fun i a b=>(k.block i (Tw a h.size) b).trans (h.block i a b)⟩
theorem ae.mono{S':Xv}(h:ae x w T)(b:∀k,k∈x->k<w.heap.size->k∈S'):ae S' w T :=
 ⟨h.os,h.tape,h.output,h.size,fun k a d=>h.block k a (fun c=>d (b k c a))⟩
theorem ae.drew(h:ae x w T):ae x w T.drew:=⟨h.os,h.tape,h.output,h.size,h.block⟩
theorem ae.drewN(h:ae x w T)(n:Nat):ae x w (T.drewN n):=⟨h.os,h.tape,h.output,h.size,h.block⟩
theorem ae.alloc(h:ae x w T)(o:Obj):ae x w (T.alloc o) :=
 h.trans ⟨rfl,rfl,rfl,by simp,fun k a _=>Below.heap_alloc _ _ _ a⟩
theorem ae.setCell(h:ae x w T){p:Addr}(a:p.block∈x∨w.heap.size<=p.block)(u:Value):ae x w (T.setCell p u) :=
 ⟨h.os,h.tape,h.output,by have:=h.size;simp[World.setCell];omega,fun k c b=>by
  rw[TM _ _ _ _ (by rintro rfl;exact a.elim b (fun a=>by omega))];exact h.block k c b⟩
theorem ae.below(h:ae [] w T):Below w.heap.size w T :=
 ⟨h.os,h.tape,h.output,h.size,fun k a=>h.block k a (by simp)⟩
theorem ah(h:w.heap[l]?=some (.cells g f))(i:Nat):w.cell? ⟨l,i,none⟩=g[i]?:=by
 unfold World.cell?;simp[h]
theorem am(h:w.heap[l]?=some (.cells g f))(i:Nat):w.frozen? ⟨l,i,none⟩=false:=by
 unfold World.frozen?;simp[h]
theorem ab(h:w.heap[l]?=some (.cells g f))(i:Nat)(u:Value) :
  (w.setCell ⟨l,i,none⟩ u).heap[l]?=some (.cells (g.setIfInBounds i u) f):=by
 simp[World.setCell,Array.getElem?_modify,h]
theorem aj(h:w.heap[l]?=some y6):l<w.heap.size:=by
 rcases Xm l w.heap.size with a | a
 ·exact a
 ·rw[Array.getElem?_eq_none a]at h;simp at h
theorem NJ{b:FuncId}(h:Calls m b g (w.drewN (l+f)) fun e a=>e=returned i/\a=w.drewN (l+f)) :
  Calls m b g (w.drewN (l+f)) fun e a=>e=returned i/\∃n,a=w.drewN (l+n) :=
 h.mono fun _ _ c=>⟨c.1,f,c.2⟩
theorem aF{b:Bool}(h:z6=b):Ending.returned (bool z6)=returned (bool b):=by rw[h]
theorem au{k:IntKind}{b:Int}(h:y2=b):Ending.returned (int k y2)=returned (int k b):=by rw[h]
theorem Jz(h:N.toList=a.toList):N=a:=by
 rw[Uo,Uo]at h;cases N;cases a
 simp only[Array.toList_inj]at h;rw[h]
theorem Ba(h:w.heap[l]?=some (.cells #[i,D] f)):w.cell? ⟨l,0,none⟩=some i/\w.cell? ⟨l,1,none⟩=some D :=
 ⟨ah h _,ah h _⟩
theorem wn(h:w.heap[l]?=some (.cells #[i,D,M] f)):w.cell? ⟨l,0,none⟩=some i/\w.cell? ⟨l,1,none⟩=some D/\w.cell? ⟨l,2,none⟩=some M :=
 ⟨ah h _,ah h _,ah h _⟩
theorem CK(h:w.heap[l]?=some (.cells #[i,D,M,z4] f)):w.cell? ⟨l,0,none⟩=some i/\w.cell? ⟨l,1,none⟩=some D/\w.cell? ⟨l,2,none⟩=some M/\w.cell? ⟨l,3,none⟩=some z4 :=
 ⟨ah h _,ah h _,ah h _,ah h _⟩
theorem od(h:w.heap[l]?=some (.cells #[i,D,M,z4,z7] f)):w.cell? ⟨l,0,none⟩=some i/\w.cell? ⟨l,1,none⟩=some D/\w.cell? ⟨l,2,none⟩=some M/\w.cell? ⟨l,3,none⟩=some z4/\w.cell? ⟨l,4,none⟩=some z7 :=
 ⟨ah h _,ah h _,ah h _,ah h _,ah h _⟩
theorem JC(h:w.heap[l]?=some (.cells #[i,D,M,z4,z7,y1] f)):w.cell? ⟨l,0,none⟩=some i/\w.cell? ⟨l,1,none⟩=some D/\w.cell? ⟨l,2,none⟩=some M/\w.cell? ⟨l,3,none⟩=some z4/\w.cell? ⟨l,4,none⟩=some z7/\w.cell? ⟨l,5,none⟩=some y1 :=
 ⟨ah h _,ah h _,ah h _,ah h _,ah h _,ah h _⟩
theorem wt{a b:Value}(h:w.heap[l]?=some (.cells #[i,D,M,z4,z7,y1,a,b] f)):w.cell? ⟨l,0,none⟩=some i/\w.cell? ⟨l,1,none⟩=some D/\w.cell? ⟨l,2,none⟩=some M/\w.cell? ⟨l,3,none⟩=some z4/\w.cell? ⟨l,4,none⟩=some z7/\w.cell? ⟨l,5,none⟩=some y1/\w.cell? ⟨l,6,none⟩=some a/\w.cell? ⟨l,7,none⟩=some b :=
 ⟨ah h _,ah h _,ah h _,ah h _,ah h _,ah h _,ah h _,ah h _⟩
theorem f9(h:w.alloc (.cells g l)=T):T.heap[w.heap.size]?=some (.cells g l):=by
 rw[<-h];exact Tu _ _
theorem fI(h:w.alloc (.cells g l)=T):ae [] w T:=by
 rw[<-h];exact(ae.refl [] _).alloc _
theorem bR:ae [] w w:=ae.refl [] w
theorem ae.sl1(h:ae (l :: x) w T)(v:Value):ae (l :: x) w (T.setCell ⟨l,f,none⟩ v):=h.setCell (TH (by simp)) v
theorem ae.sr1(h:ae x w T)(a:w.heap.size<=l)(v:Value):ae x w (T.setCell ⟨l,f,none⟩ v):=h.setCell (TE a) v
theorem kn:(v<H/\(v:Int)<(H:Int))∨(¬v<H/\¬(v:Int)<(H:Int)):=by omega
theorem bn{α:Type}(e:α):∃x,Xr (e=x):=⟨_,rfl⟩
theorem ci{p:Prop}(h:p):Xr p:=h
def dn(n:Int):Bool:=n==32||n==9||n==10||n==12||n==13
def fV(n:Int):Bool:=decide (33<=n)&&decide (n<=126)
theorem kT :
  Calls prog 227 #[int u8 y0] S fun e a=>e=returned (bool (dn y0))/\a=S:=by
 go_enter func227,ntmps227;go_wp2
 all_goals go_ret
 all_goals (refine⟨?_,rfl⟩;simp[dn, *])
theorem qe :
  Calls prog 230 #[int u8 y0] S fun e a=>e=returned (bool (fV y0))/\a=S:=by
 go_enter func230,ntmps230;go_wp2
 all_goals go_ret
 all_goals (refine⟨?_,rfl⟩;first | (simp[fV, *];done) | (simp[fV];omega))
def aI(d:Xs)(k:Nat):Int:=if h:k<d.size then((d[k]'h).toNat:Int) else 0
theorem bZ(h:H<b.size):aI b H=((b[H]'h).toNat:Int):=by unfold aI;rw[dif_pos h]
def aU(d:Xs):Nat->Int
 | 0=>1
 | k+1=>if aI d k==10 then aU d k+1 else aU d k
def bJ(d:Xs):Nat->Int
 | 0=>1
 | k+1=>if aI d k==10 then 1 else bJ d k+1
theorem Bx(k:Nat):1<=aU b k/\aU b k<=k+1:=by
 induction k with
 | zero=>simp[aU]
 | succ k a=>simp only[aU];split <;> omega
theorem Be(k:Nat):1<=bJ b k/\bJ b k<=k+1:=by
 induction k with
 | zero=>simp[bJ]
 | succ k a=>simp only[bJ];split <;> omega
def nD(n d:Xs)(k:Nat):Array Value:=#[string n,string d,int i64 k,int i64 (aU d k),int i64 (bJ d k)]
def cg(w:World)(b:Nat)(n d:Xs)(k:Nat):Prop:=w.heap[b]?=some (.cells (nD n d k) 300)
theorem cg.cells(h:cg w l N a f) :
  w.cell? ⟨l,0,none⟩=some (string N)/\w.cell? ⟨l,1,none⟩=some (string a)/\w.cell? ⟨l,2,none⟩=some (int i64 f) /\
  w.cell? ⟨l,3,none⟩=some (int i64 (aU a f))/\w.cell? ⟨l,4,none⟩=some (int i64 (bJ a f)):=by
 refine⟨?_,?_,?_,?_,?_⟩ <;> (rw[ah h];rfl)
theorem cg.XR(h:cg w l N a f)(c:ae x w T)(b:l∉x):cg T l N a f :=
 (c.block l (aj h) b).trans h
theorem ae.get(b:ae x w T)(h:w.heap[l]?=some y6)(a:l∉x):T.heap[l]?=some y6 :=
 (b.block l (aj h) a).trans h
theorem BY(h:cg w l N a f)(e:f<a.size)(d:((a[f].toNat:Int)==10)=true)(m:Nat) :
  cg (((((w.drewN m).setCell ⟨l,3,none⟩ (int i64 (aU a f+1))).setCell ⟨l,4,none⟩ (int i64 0)).setCell ⟨l,4,none⟩ (int i64 1)).setCell ⟨l,2,none⟩ (int i64 ((f:Int)+1))) l N a (f+1):=by
 have b:(w.drewN m).heap[l]?=some (.cells (nD N a f) 300):=h;have c:=ab (ab (ab (ab b 3 (int i64 (aU a f+1))) 4 (int i64 0)) 4 (int i64 1)) 2 (int i64 ((f:Int)+1));unfold cg;rw[c];simp[nD,aU,bJ,bZ a f e,d]
theorem wB(h:cg w l N a f)(e:f<a.size)(d:((a[f].toNat:Int)==10)=false)(m:Nat) :
  cg (((w.drewN m).setCell ⟨l,4,none⟩ (int i64 (bJ a f+1))).setCell ⟨l,2,none⟩ (int i64 ((f:Int)+1))) l N a (f+1):=by
 have b:(w.drewN m).heap[l]?=some (.cells (nD N a f) 300):=h;have c:=ab (ab b 4 (int i64 (bJ a f+1))) 2 (int i64 ((f:Int)+1));unfold cg;rw[c];simp[nD,aU,bJ,bZ a f e,d]
theorem Ek(q:b.size<=1024)(a:y<b.size)(h:cg S I n b y) :
  Calls prog 228 #[pointer (some ⟨I,0,none⟩)] S fun e c=>e=returned (tuple #[])/\cg c I n b (y+1)/\ae [I] S c:=by
 obtain⟨g,i,j,k,l⟩:=h.cells;have m:=am h 2;have o:=am h 3;have p:=am h 4;have f:=Bx b y;have d:=Be b y;go_enter func228,ntmps228;go_wp2;go_quiet (fail);go_wp2;go_quiet (fail);go_wp2
 all_goals go_end0
 all_goals refine⟨rfl,?_,?_⟩
 ·exact BY h a (by assumption) _
 ·exact((((((ae.refl _ _).drewN _).sl1 _).sl1 _).sl1 _).sl1 _)
 ·exact wB h a (by assumption) _
 ·exact((((ae.refl _ _).drewN _).sl1 _).sl1 _)
theorem Ah(h:cg S I n b y) :
  Calls prog 229 #[pointer (some ⟨I,0,none⟩)] S fun e a=>e=returned (agg #[string n,int i64 (aU b y),int i64 (bJ b y)])/\ae [] S a:=by
 obtain⟨c,d,f,g,i⟩:=h.cells;have j:=aj h;go_enter func229,ntmps229;go_wp2;go_region
 all_goals go_wp2
 exact Tz (v:=agg #[string n,int i64 (aU b y),int i64 (bJ b y)]) (by simp[results,results229,go_sem]) rfl ⟨rfl,((ae.refl _ _).alloc _).drew⟩
def qZ(d:Xs):Nat->Nat->Nat
 | 0,k=>k
 | f+1,k=>if k<d.size/\dn (aI d k)=true then qZ d f (k+1) else k
def skip(d:Xs)(k:Nat):Nat:=qZ d (d.size-k) k
def ri(d:Xs):Nat->Nat->Nat
 | 0,k=>k
 | f+1,k=>if k<d.size/\dn (aI d k)=false/\fV (aI d k)=true then ri d f (k+1) else k
def dh(d:Xs)(k:Nat):Nat:=ri d (d.size-k) k
theorem IT(h:H<b.size)(a:dn (aI b H)=true):skip b H=skip b (H+1):=by
 unfold skip;rw[show b.size-H=(b.size-(H+1))+1 by omega];rw[qZ,Tr ⟨h,a⟩]
theorem uC(h:¬(H<b.size/\dn (aI b H)=true)):skip b H=H:=by
 unfold skip;cases b.size-H with
 | zero=>rfl
 | succ f=>rw[qZ,Tp h]
theorem Jb(h:H<b.size)(a:dn (aI b H)=false)(c:fV (aI b H)=true):dh b H=dh b (H+1):=by
 unfold dh;rw[show b.size-H=(b.size-(H+1))+1 by omega];rw[ri,Tr ⟨h,a,c⟩]
theorem yZ(h:¬(H<b.size/\dn (aI b H)=false/\fV (aI b H)=true)):dh b H=H:=by
 unfold dh;cases b.size-H with
 | zero=>rfl
 | succ f=>rw[ri,Tp h]
theorem As(f k:Nat):k<=qZ b f k/\(k<=b.size->qZ b f k<=b.size):=by
 induction f generalizing k with
 | zero=>simp[qZ]
 | succ f a =>
  rw[qZ];split
  ·have:=a (k+1);omega
  ·omega
theorem AH(f k:Nat):k<=ri b f k/\(k<=b.size->ri b f k<=b.size):=by
 induction f generalizing k with
 | zero=>simp[ri]
 | succ f a =>
  rw[ri];split
  ·have:=a (k+1);omega
  ·omega
theorem BZ(h:H<=b.size):H<=skip b H/\skip b H<=b.size:=⟨(As b _ H).1,(As b _ H).2 h⟩
theorem tw(h:H<=b.size):H<=dh b H/\dh b H<=b.size:=⟨(AH b _ H).1,(AH b _ H).2 h⟩
structure tC where
 text:Xs
 X6:Int
 XY:Bool
 pos:Nat
def fN(n d:Xs)(i:tC):Value:=agg #[string i.text,int i64 i.X6,bool i.XY,string n,int i64 (aU d i.pos),int i64 (bJ d i.pos)]
def bQ(d:Xs)(k:Nat):tC×Nat :=
 let a:=skip d k
 let z:=dh d a
 if z<d.size/\dn (aI d z)=false then(⟨⟨#[]⟩,1,false,z⟩,z)
 else if z<=a then(⟨⟨#[]⟩,0,true,a⟩,z)
 else(⟨d.extract a z,0,false,a⟩,z)
theorem Ec(b:v=skip d y)(f:dh d H=dh d v)(g:H<d.size)(a:dn (aI d H)=false)(c:fV (aI d H)=false) :
  bQ d y=(⟨⟨#[]⟩,1,false,H⟩,H):=by
 have e:dh d (skip d y)=H:=by rw[<-b,<-f];exact yZ d H (fun h=>by simp[c]at h)
 simp only[bQ,e];rw[Tr ⟨g,a⟩]
theorem Ed(a:v=skip d y)(c:dh d H=dh d v)(b:¬(H<d.size/\dn (aI d H)=false))(f:H<=v) :
  bQ d y=(⟨⟨#[]⟩,0,true,v⟩,H):=by
 have e:dh d (skip d y)=H:=by rw[<-a,<-c];exact yZ d H (fun h=>b ⟨h.1,h.2.1⟩)
 simp only[bQ,e];rw[Tp b,<-a,Tr f]
theorem Ao(a:v=skip d y)(c:dh d H=dh d v)(b:¬(H<d.size/\dn (aI d H)=false))(f:v<H) :
  bQ d y=(⟨d.extract v H,0,false,v⟩,H):=by
 have e:dh d (skip d y)=H:=by rw[<-a,<-c];exact yZ d H (fun h=>b ⟨h.1,h.2.1⟩)
 simp only[bQ,e];rw[Tp b,<-a,Tp (by omega)]
theorem LK :
  (∃h:H<b.size,dn ((b[H]'h).toNat:Int)=false/\fV ((b[H]'h).toNat:Int)=true/\dh b (H+1)=dh b H) ∨
  (∃h:H<b.size,dn ((b[H]'h).toNat:Int)=false/\fV ((b[H]'h).toNat:Int)=false) ∨
  (∃h:H<b.size,dn ((b[H]'h).toNat:Int)=true)∨(¬H<b.size/\decide ((H:Int)<(b.size:Int))=false):=by
 by_cases h:H<b.size
 ·have e:=bZ b H h;cases a:dn (aI b H) with
  | true=>exact TE (TE (TH ⟨h,e ▸ a⟩))
  | false =>
   cases c:fV (aI b H) with
   | true=>exact TH ⟨h,e ▸ a,e ▸ c,(Jb b H h a c).symm⟩
   | false=>exact TE (TH ⟨h,e ▸ a,e ▸ c⟩)
 ·exact TE (TE (TE ⟨h,by simp;omega⟩))
def lm(n:Int):Bool:=decide (33<=n)&&decide (n<=126) && !(n==36)
def g9(s:Xs):Bool:=decide (1<=s.size)&&decide (s.size<=8)&&(List.range s.size).all (fun i=>lm (aI s i))
def dq(n d:Xs):Int:=if g9 n=false then 2 else if 1024<d.size then 3 else 0
theorem nk(h:b.size<1∨8<b.size):g9 b=false:=by
  unfold g9;rcases h with h | h
  · simp[show ¬1<=b.size by omega]
  · simp[show ¬b.size<=8 by omega]
theorem Fr(h:H<b.size)(a:lm (aI b H)=false):g9 b=false:=by
  unfold g9;have:(List.range b.size).all (fun H=>lm (aI b H))=false:=by
    rw[Wr];exact⟨H,by simp[h],by simp[a]⟩
  simp[this]
theorem Dm(a:1<=b.size)(c:b.size<=8)(h:∀i,i<b.size->lm (aI b i)=true):g9 b=true:=by
  unfold g9;have:(List.range b.size).all (fun i=>lm (aI b i))=true:=by
    rw[Uw];intro i d;exact h i (by simpa using d)
  simp[this,a,c]
theorem xP(s:b.size<=1073741824) :
    Calls prog 78 #[string b] S fun e p=>e=returned (bool (g9 b))/\p=S:=by
  by_cases l:1<=b.size
  · by_cases m:b.size<=8
    · go_enter func78,ntmps78
      go_wp2
      go_loopg [3] b.size (fun g i wr=>∃k:Nat,k<=b.size/\g=b.size-k/\i=int i64 k/\Xr (∀i,i<k->lm (aI b i)=true)/\wr=S)
      · exact⟨0,by omega,by omega,rfl,fun i h=>by omega,rfl⟩
      obtain⟨k,r,q,rfl,a,rfl⟩:=hrel;by_cases d:k<b.size
      · have j:∀c:Bool,lm (b[k].toNat:Int)=c->lm (aI b k)=c:=fun c h=>by rw[bZ b k d];exact h
        have f:Xr (∀c:Bool,lm (b[k].toNat:Int)=c->lm (aI b k)=c):=j;clear j;go_wp2
        all_goals first
          | (go_ret;refine⟨aF ?_,rfl⟩;rw[Fr b k d (f.o false ?_)];first | (simp[lm];omega) | (simp[lm];simp at *;omega))
          | (go_roundg (b.size-(k+1))
             case measure=>omega
             case rel =>
               refine⟨k+1,by omega,rfl,by go_num,?_,rfl⟩;intro i n;by_cases e:i=k
               · subst e;exact f.o true (by simp[lm];simp at *;omega)
               · exact a.o i (by omega))
      · go_wp2
        go_ret;exact⟨aF (Dm b l m (fun i n=>a.o i (by omega))).symm,rfl⟩
    · go_enter func78,ntmps78
      go_wp2
      all_goals go_ret
      all_goals exact⟨aF (nk b (TE (by omega))).symm,rfl⟩
  · go_enter func78,ntmps78
    go_wp2
    all_goals go_ret
    all_goals exact⟨aF (nk b (TH (by omega))).symm,rfl⟩
theorem oP(c:n.size<=1073741824)(i:b.size<=4294967296) :
    Calls prog 50 #[string n,string b] S fun e f=>e=returned (int i64 (dq n b))/\f=S:=by
  cases a:g9 n
  · go_enter func50,ntmps50
    go_wp2_with fail;refine(xP n _ c).mono ?_;rintro e g ⟨rfl,rfl⟩;go_wp2;go_ret;exact⟨au (by simp[dq,a]),rfl⟩
  · by_cases d:1024<b.size
    all_goals
      go_enter func50,ntmps50;go_wp2_with fail;refine(xP n _ c).mono ?_;rintro e g ⟨rfl,rfl⟩;go_wp2;go_ret;exact⟨au (by simp[dq,a,d]),rfl⟩
def aG(fs:Fs)(i:Nat):Xs:=(fs.getD i (⟨#[]⟩,⟨#[]⟩)).1
def ak(fs:Fs)(i:Nat):Xs:=(fs.getD i (⟨#[]⟩,⟨#[]⟩)).2
def pS(fs:Fs):List Value :=
  [string (aG fs 0),string (ak fs 0),string (aG fs 1),string (ak fs 1),string (aG fs 2),string (ak fs 2),string (aG fs 3),string (ak fs 3),int i64 fs.length]
def bO(w:World)(v t:Nat)(fs:Fs)(more:List Value):Prop:=w.heap[v]?=some (.cells (pS fs++more).toArray t)/\fs.length<=4
theorem bO.name{a:Fs}(h:bO w l f a L)(i:Nat)(b:i<4) :
    w.cell? ⟨l,i*2,none⟩=some (string (aG a i))/\w.cell? ⟨l,i*2+1,none⟩=some (string (ak a i)):=by
  constructor <;> rw[ah h.1]
  all_goals
    match i,b with
    | 0,_=>rfl
    | 1,_=>rfl
    | 2,_=>rfl
    | 3,_=>rfl
theorem bO.count{a:Fs}(h:bO w l f a L) :
    w.cell? ⟨l,8,none⟩=some (int i64 a.length):=by
  rw[ah h.1];rfl
def dR(n:Xs):Fs->Nat->Int
  | [],_=>-1
  | f :: r,i=>if(f.1.toList==n.toList)=true then i else dR n r (i+1)
def bU(fs:Fs)(n:Xs):Int:=dR n fs 0
theorem Id{α:Type}(l:List α)(k:Nat)(h:k<l.length):l.drop k=l[k] :: l.drop (k+1):=TV h
theorem zP(a:Fs)(k:Nat)(h:k<a.length):aG a k=a[k].1:=by
  unfold aG;rw[To,Tn h];rfl
theorem C4(a:Fs)(n:Xs)(k:Nat)(h:k<a.length)(c:bU a n=dR n (a.drop k) k)(b:((aG a k).toList==n.toList)=true):bU a n=k:=by
  rw[c,Id _ _ h,dR,<-zP a k h,Tr b]
theorem zR(a:Fs)(n:Xs)(k:Nat)(h:k<a.length)(c:bU a n=dR n (a.drop k) k)(b:((aG a k).toList==n.toList)=false):bU a n=dR n (a.drop (k+1)) (k+1):=by
  rw[c,Id _ _ h,dR,<-zP a k h,Tp (by simp[b])]
theorem zS(a:Fs)(n:Xs)(k:Nat)(h:¬k<a.length)(b:bU a n=dR n (a.drop k) k):bU a n=-1:=by
  rw[b,US (by omega),dR]
theorem mv(b:Fs)(f:List Value)(n:Xs)(w:World)(h:bO w v H b f) :
    Calls prog 51 #[pointer (some ⟨v,0,none⟩),string n] w fun e p=>e=returned (int i64 (bU b n))/\p=w:=by
  have l:=h.count;have m:=h.2;go_enter func51,ntmps51;go_wp2
  go_loopg [5] b.length (fun g i wr=>∃k:Nat,k<=b.length/\g=b.length-k/\i=int i64 k/\Xr (bU b n=dR n (b.drop k) k)/\wr=w)
  · exact⟨0,by omega,by omega,rfl,rfl,rfl⟩
  obtain⟨k,r,q,rfl,a,rfl⟩:=hrel;by_cases c:k<b.length
  · obtain⟨s,t⟩:=h.name k (by omega)
    cases j:((aG b k).toList==n.toList)
    · have d:Xr (bU b n=dR n (b.drop (k+1)) (k+1)):=zR b n k c a.o j
      clear a;go_wp2;go_roundg (b.length-(k+1))
      · exact⟨k+1,by omega,rfl,by go_num,d,rfl⟩
      omega
    · have d:Xr (bU b n=k):=C4 b n k c a.o j
      clear a;go_wp2;go_ret;exact⟨au d.o.symm,rfl⟩
  · have d:Xr (bU b n=-1):=zS b n k c a.o
    clear a;go_wp2;go_ret;exact⟨au d.o.symm,rfl⟩
theorem bO.free{a:Fs}(h:bO w l f a L)(i:Nat):w.frozen? ⟨l,i,none⟩=false:=am h.1 i
theorem bO.XR{a:Fs}(h:bO w l f a L)(b:ae x w T)(c:l∉x):bO T l f a L :=
 ⟨b.get h.1 c,h.2⟩
theorem bO.lt{a:Fs}(h:bO w l f a L):l<w.heap.size:=aj h.1
theorem MO(a:Fs)(b:List Value)(w:World)(h:bO w y v a b)(i:H<a.length) :
  Calls prog 155 #[pointer (some ⟨y,0,none⟩),int i64 H] w fun e g=>e=returned (agg #[string (aG a H),string (ak a H)])/\ae [] w g:=by
 have c:=h.count;have d:=h.2;have f:=h.lt;obtain⟨j,k⟩:=h.name H (by omega);go_enter func155,ntmps155;go_wp2;exact Tz (v:=agg #[string (aG a H),string (ak a H)]) (by simp[results,results155,go_sem]) rfl ⟨rfl,(ae.refl _ _).alloc _⟩
theorem Qq(f:Fs)(e:List Value)(n d:Xs)(h:f.length<4) :
  (((pS f++e).set (f.length*2) (string n)).set (f.length*2+1) (string d)).set 8 (int i64 ((f.length:Int)+1))=pS (f++[(n,d)])++e:=by
 match f,h with
 | [],_=>rfl
 | [a],_=>rfl
 | [a,b],_=>rfl
 | [a,b,c],_=>rfl
theorem Qr(g:Fs)(f:List Value)(n d:Xs)(k:Nat)(i:k<g.length)(h:g.length<=4) :
  ((pS g++f).set (k*2) (string n)).set (k*2+1) (string d)=pS (g.set k (n,d))++f:=by
 match g,h,k,i with
 | [a],_,0,_=>rfl
 | [a,b],_,0,_=>rfl
 | [a,b],_,1,_=>rfl
 | [a,b,c],_,0,_=>rfl
 | [a,b,c],_,1,_=>rfl
 | [a,b,c],_,2,_=>rfl
 | [a,b,c,e],_,0,_=>rfl
 | [a,b,c,e],_,1,_=>rfl
 | [a,b,c,e],_,2,_=>rfl
 | [a,b,c,e],_,3,_=>rfl
theorem bO.added{a:Fs}(h:bO w l f a L)(n d:Xs)(c:a.length<4) :
  bO (((w.setCell ⟨l,a.length*2,none⟩ (string n)).setCell ⟨l,a.length*2+1,none⟩ (string d)).setCell ⟨l,8,none⟩ (int i64 ((a.length:Int)+1))) l f (a++[(n,d)]) L:=by
 have b:=ab (ab (ab h.1 (a.length*2) (string n)) (a.length*2+1) (string d)) 8 (int i64 ((a.length:Int)+1));refine⟨?_,by simp;omega⟩;rw[b];simp only[List.setIfInBounds_toArray,Qq a L n d c]
theorem bO.turned{a:Fs}(h:bO w l f a L)(n d:Xs)(k:Nat)(c:k<a.length) :
  bO ((w.setCell ⟨l,k*2,none⟩ (string n)).setCell ⟨l,k*2+1,none⟩ (string d)) l f (a.set k (n,d)) L:=by
 have b:=ab (ab h.1 (k*2) (string n)) (k*2+1) (string d);refine⟨?_,by simpa using h.2⟩;rw[b];simp only[List.setIfInBounds_toArray,Qr a L n d k c h.2]
theorem Hj(c:Fs)(a:List Value)(w:World)(h:bO w I y c a)(i:c.length<4) :
  Calls prog 52 #[pointer (some ⟨I,0,none⟩),agg #[string n,string b]] w fun e f=>e=returned (tuple #[])/\bO f I y (c++[(n,b)]) a/\ae [I] w f:=by
 have d:=h.count;have g:=h.free;have j:=h.lt;obtain⟨k,l⟩:=h.name c.length (by omega);go_enter func52,ntmps52;go_wp2;go_region
 all_goals go_wp2
 all_goals go_end0
 exact⟨rfl,(h.added n b i).XR (bR.alloc _ |>.drew) (by simp),((((ae.refl _ _).sl1 _).sl1 _).sl1 _).alloc _ |>.drew⟩
def fJ(fs:Fs)(n d:Xs):Int×Fs :=
 if dq n d≠0 then(dq n d,fs)
 else if 0<=bU fs n then(0,fs.set (bU fs n).toNat (n,d))
 else if 4<=fs.length then(1,fs) else(0,fs++[(n,d)])
theorem C2(a:Fs)(i:Nat):dR b a i=-1∨((i:Int)<=dR b a i/\dR b a i<i+a.length):=by
 induction a generalizing i with
 | nil=>exact TH rfl
 | cons f r c =>
  rw[dR];split
  ·exact TE ⟨by omega,by simp;omega⟩
  ·rcases c (i+1) with h | h
   ·exact TH h
   ·exact TE ⟨by omega,by simp;omega⟩
theorem qC(a:Fs):bU a b=-1∨∃k:Nat,k<a.length/\bU a b=k:=by
 rcases C2 b a 0 with h | h
 ·exact TH h
 ·refine TE ⟨(bU a b).toNat,?_,?_⟩ <;> (unfold bU;omega)
theorem IL(a:Fs)(c:List Value)(w:World)(h:bO w I y a c)(p:n.size<=1073741824)(m:b.size<=4294967296) :
  Calls prog 33 #[pointer (some ⟨I,0,none⟩),string n,string b] w fun e u=>e=returned (int i64 (fJ a n b).1)/\bO u I y (fJ a n b).2 c/\ae [I] w u:=by
 have r:=h.count;have B:=h.lt;have t:=h.2;by_cases d:dq n b=0
 ·rcases qC n a with i | ⟨k,A,i⟩
  ·by_cases s:4<=a.length
   ·have g:Xr (fJ a n b=(1,a)):=(by show fJ a n b=_;simp[fJ,d,i,s]);have l:Xr (dq n b=0):=d;have f:Xr (bU a n=-1):=i;clear d i;go_enter func33,ntmps33;go_wp2_with fail;refine(oP n b _ p m).mono ?_;rintro e j ⟨rfl,rfl⟩;rw[l.o];go_wp2_with fail;refine(mv I y a c n _ (by exact h.XR (bR.alloc _) (by simp))).mono ?_;rintro e j ⟨rfl,rfl⟩;rw[f.o];go_wp2;go_ret;exact⟨au (by rw[g.o]),by rw[g.o];exact h.XR (bR.alloc _) (by simp),(ae.refl _ _).alloc _⟩
   ·have g:Xr (fJ a n b=(0,a++[(n,b)])):=(by show fJ a n b=_;simp[fJ,d,i,s]);have l:Xr (dq n b=0):=d;have f:Xr (bU a n=-1):=i;clear d i;go_enter func33,ntmps33;go_wp2_with fail;refine(oP n b _ p m).mono ?_;rintro e j ⟨rfl,rfl⟩;rw[l.o];go_wp2_with fail;refine(mv I y a c n _ (by exact h.XR (bR.alloc _) (by simp))).mono ?_;rintro e j ⟨rfl,rfl⟩;rw[f.o];go_wp2_with fail;refine(Hj I y n b a c _ (by exact h.XR (bR.alloc _) (by simp)) (by omega)).mono ?_;rintro e E ⟨rfl,v,q⟩;go_wp2;go_ret;exact⟨au (by rw[g.o]),by rw[g.o];exact v,((ae.refl _ _).alloc _).trans q⟩
  ·have g:Xr (fJ a n b=(0,a.set k (n,b))):=(by show fJ a n b=_;simp[fJ,d,i]);have l:Xr (dq n b=0):=d;have f:Xr (bU a n=k):=i;obtain⟨C,D⟩:=h.name k (by omega);have z:=h.free;clear d i;go_enter func33,ntmps33;go_wp2_with fail;refine(oP n b _ p m).mono ?_;rintro e j ⟨rfl,rfl⟩;rw[l.o];go_wp2_with fail;refine(mv I y a c n _ (by exact h.XR (bR.alloc _) (by simp))).mono ?_;rintro e j ⟨rfl,rfl⟩;rw[f.o];go_wp2_with fail;go_region
   all_goals go_wp2
   all_goals go_ret
   exact⟨au (by rw[g.o]),by rw[g.o];exact(h.turned n b k A).XR (bR.alloc _ |>.drew) (by simp),(((ae.refl _ _).sl1 _).sl1 _).alloc _ |>.drew⟩
 ·have g:Xr (fJ a n b=(dq n b,a)):=by show fJ a n b=_;simp[fJ,d]
  have x:(dq n b != 0)=true:=by simp[d]
  clear d;go_enter func33,ntmps33;go_wp2_with fail;refine(oP n b _ p m).mono ?_;rintro e j ⟨rfl,rfl⟩;go_wp2;go_ret;exact⟨au (by rw[g.o]),by rw[g.o];exact h,ae.refl _ _⟩
structure Hd where
 ao:Xu
 cap:Nat
def Hd.XS(h:Hd):Option Nat:=h.ao.map (·.block)
structure eR where
 e:TypeId
 size:Nat
 n:Nat
 xs:List Value
def aB(w:World)(h:Hd)(r:eR):Prop:=w.ownsRow 0 r.e r.size (slice h.ao r.n h.cap) r.n r.xs
theorem BH(h:Hd)(n:Nat):(slice h.ao n h.cap).ownBlock=h.XS:=by
 unfold Hd.XS;cases h.ao <;> rfl
theorem aB.lt{h:Hd}{r:eR}(o:aB w h r){k:Nat}(a:h.XS=some k):k<w.heap.size :=
 (World.ownsRow.lt (h:=o) k (by rw[BH];exact a)).2
theorem aB.XJ{w':World}{h:Hd}{r:eR}(o:aB w h r)(n:∀k,h.XS=some k->w'.heap[k]?=w.heap[k]?):aB w' h r:=by
 refine⟨o.1,?_⟩;rcases o.2 with m | ⟨g,b,c,a,j,l,d,e,f,i⟩
 ·exact TH m
 ·refine TE ⟨g,b,c,a,j,?_,d,e,f,i⟩;rw[n g (by unfold Hd.XS;injection a with a;rw[a];rfl)];exact l
theorem aB.XP{h:Hd}{r:eR}(o:aB w h r) :
  (h=⟨none,0⟩/\r.n=0/\r.xs=[])∨∃g a,h.ao=some ⟨g,0,none⟩/\w.heap[g]?=some (.cells a r.e)/\r.n<=h.cap/\h.cap<=maxLen/\a.size=h.cap*r.size/\a.toList.take (r.n*r.size)=r.xs:=by
 rcases o.2 with ⟨b,f⟩ | ⟨g,j,a,b,s,q,k,l,m,p⟩
 ·left
  injection b with c i d
  refine⟨by cases h;simp_all,f,Uf (by rw[o.1,f];simp)⟩
 ·right
  injection b with c i d
  subst d;exact⟨g,a,c,q,k,l,m,p⟩
theorem bY:(⟨v,0,none⟩:Addr).add H=⟨v,H,none⟩:=by
 simp only[Addr.add];split
 ·next h=>subst h;rfl
 ·simp
theorem aB.cell{h:Hd}{r:eR}(o:aB w h r)(a:h.ao=some ⟨l,0,none⟩)(j:Nat)(u:Value)(b:r.xs[j]?=some u):w.cell? ⟨l,j,none⟩=some u:=by
 have:=o.cells (g:=l) (by rw[BH];unfold Hd.XS;rw[a];rfl) j u b;rw[bY]at this;exact this
theorem aL{y:List Oper}(Q:s.guard=none)(H x:Operand)(t:TypeId)(C:s.op=Op.call { callee:=Callee.builtin Builtin.append,args:=#[H,x],argTypes:=#[t,t] })(i:TypeInfo)(z:Value)(f:Nat)(h:Hd)(r:eR)(K:m.underlying t=some (.slice r.e))(L:m.info? r.e=some i)(h3:i.zero=some z)(M:i.size=r.size)(h5:i.bytes=f)(h6:z.cells.size=r.size)(h7:0<r.size)(T:z5.eval H=slice h.ao r.n h.cap)(o:aB S h r)(E:Addr)(p c:Nat)(d:List Value)(U:z5.eval x=slice (some E) p c)(R:d.length=p*r.size)(P:∀j u,d[j]?=some u->S.cell? (E.add j)=some u)(B:∀u∈d,u.oneCell'=true)(hm:0<p)(b1:r.n+p<=maxLen)(I:(r.n+p)*f<=140737488355328)(N:∀g a w,aB w ⟨some ⟨g,0,none⟩,a⟩ ⟨r.e,r.size,r.n+p,r.xs++d⟩->S.grownBy w h.XS->(h.XS=some g∨S.heap.size<=g)->wpList m y3 y7 y (z5.put s.dst (slice (some ⟨g,0,none⟩) (r.n+p) a)) w) :
  wpList m y3 y7 (s :: y) z5 S:=by
 rcases o.XP with ⟨v,A,J⟩ | ⟨g,F,v,A,J,e4,e5,e6⟩
 ·refine wpList_append_grows S Q H x t C r.e i z r.size f K L h3 M h5 h6 h7 none 0 0 [] (by rw[T,v,A]) (fun _=>⟨rfl,rfl⟩) (by simp) (by intro b O;cases O) E p c d U R P B (by omega) (by omega) (by rw[A]at I;exact I) ?_;intro v' w D l;rcases D.2 with ⟨_,q⟩ | ⟨g,a,F,V,W,X,Y,Z,q6,q7⟩
  ·omega
  ·have:=N g a w ⟨by have:=D.1;simpa [J,A] using this,TE ⟨g,a,F,by simp,Uc _,X,by simpa [A] using Y,Z,q6,by simpa [A,J] using q7⟩⟩ (by rw[v];exact l) (TE W);rw[V];simpa [A] using this
 ·by_cases hf:r.n+p<=h.cap
  ·refine wpList_append_fits S Q H x t C 0 r.e i r.size K L M g r.n h.cap r.xs (by rw[T,v]) (by have:=o;unfold aB at this;rw[v]at this;exact this) E p c d U R P B hf ?_;intro w D l;exact N g h.cap w D (by unfold Hd.XS;rw[v];exact l) (TH (by unfold Hd.XS;rw[v];rfl))
  ·refine wpList_append_grows S Q H x t C r.e i z r.size f K L h3 M h5 h6 h7 (some ⟨g,0,none⟩) r.n h.cap r.xs (by rw[T,v]) (by intro hh;cases hh) o.1 (by intro b O j u hj;cases O;rw[bY];exact o.cell v j u hj) E p c d U R P B (by omega) b1 I ?_;intro v' w D l;rcases D.2 with ⟨_,q⟩ | ⟨g',a,G,V,W,X,Y,Z,q6,q7⟩
   ·omega
   ·have:=N g' a w ⟨D.1,TE ⟨g',a,G,rfl,Uc _,X,Y,Z,q6,q7⟩⟩ ⟨l.os,l.tape,l.output,l.size,fun k hk _=>l.block k hk (by simp)⟩ (TE W);rw[V];exact this
theorem zs{P:Program}(p F G c:TypeId)(g f a:Nat)(h:Hd)(r:eR)(b:Array Value)(t:TypeId)(E:P.underlying p=some (.slice c))(q:(P.info? c).map (·.size)=some a)(C:r.size=a)(y:S.heap[g]?=some (.cells b t))(l:aB S h r)(D:b.size=r.n*a)(x:∀v∈r.xs,v.oneCell'=true) :
  (Builtin.copy_ #[p,F] G #[slice (some ⟨g,0,none⟩) r.n f,slice h.ao r.n h.cap]).run P S=.ok (goInt r.n) (S.setRow g r.xs.toArray):=by
 have B:r.xs.length=r.n*a:=by have:=l.1;rw[C]at this;exact this
 have d:=run_storeCells_at P g 0 t r.xs 0 b S y (by simp;omega) x;have s:(b.toList.take (0+0)++r.xs++b.toList.drop (0+0+r.xs.length))=r.xs:=by
  simp;omega
 rw[s]at d;have k:(Builtin.firstCells a r.n (slice h.ao r.n h.cap)).run P S=.ok r.xs.toArray S:=by
  rcases l.XP with ⟨e,H,u⟩ | ⟨w,o,e,_⟩
  ·rw[e,u];exact run_firstCells_none S _ _ _ _
  ·rw[e];exact run_firstCells_some S a r.n ⟨w,0,none⟩ r.n h.cap r.xs B (fun j v A=>by rw[bY];exact l.cell e j v A)
 cases m:P.info? c with
 | none=>simp[m]at q
 | some i =>
  have z:i.size=a:=by simpa [m] using q
  simp[Builtin.copy_,run_underlying E,Builtin.lenOf,sizeOf,typeInfo,m,z,k,d]
theorem vW(h:ae x w T)(a:l∈x∨w.heap.size<=l)(c:Array Value):ae x w (T.setRow l c) :=
 ⟨h.os,h.tape,h.output,by have:=h.size;simp[World.setRow];omega,fun k d b=>by
  rw[setRow_other T l k c (by rintro rfl;exact a.elim b (fun a=>by omega))];exact h.block k d b⟩
theorem rm{P:Program}(d j k:TypeId)(g b:Nat)(h:Hd)(r:eR)(a:Array Value)(t:TypeId)(p:P.underlying d=some (.slice r.e))(o:(P.info? r.e).map (·.size)=some r.size)(i:S.heap[g]?=some (.cells a t))(m:aB S h r)(f:a.size=r.n*r.size)(l:∀v∈r.xs,v.oneCell'=true) :
  ∃c,(Builtin.copy_ #[d,j] k #[slice (some ⟨g,0,none⟩) r.n b,slice h.ao r.n h.cap]).run P S=.ok (goInt r.n) c/\c.heap[g]?=some (.cells r.xs.toArray t)/\ae [g] S c/\c.heap.size=S.heap.size :=
 ⟨_,zs (P:=P) S d j k r.e g b r.size h r a t p o rfl i m f l,setRow_heap S g _ _ t _ i,vW (ae.refl _ _) (TH (by simp)) _,by simp[World.setRow]⟩
theorem aB.made{r:eR}(b:w.heap[l]?=some (.cells r.xs.toArray r.e))(a:r.xs.length=r.n*r.size)(c:r.n<=maxLen):aB w ⟨some ⟨l,0,none⟩,r.n⟩ r :=
 ⟨a,TE ⟨l,r.n,r.xs.toArray,rfl,Uc _,b,Tq _,c,by simpa using a,by simp[<-a]⟩⟩
theorem qV{P:Program}(t C:TypeId)(i:TypeInfo)(z:Value)(d:Nat)(h:Hd)(r:eR)(F:P.underlying t=some (.slice r.e))(G:P.info? r.e=some i)(U:i.zero=some z)(H:i.size=r.size)(V:i.bytes=d)(W:z.cells.size=r.size)(X:0<r.size)(o:aB S h r)(x:Addr)(m c:Nat)(b:List Value)(J:b.length=m*r.size)(I:∀j u,b[j]?=some u->S.cell? (x.add j)=some u)(B:∀u∈b,u.oneCell'=true)(hm:0<m)(Y:r.n+m<=maxLen)(D:(r.n+m)*d<=140737488355328) :
  ∃g a s,(Builtin.append_ #[t,t] C #[slice h.ao r.n h.cap,slice (some x) m c]).run P S=.ok (slice (some ⟨g,0,none⟩) (r.n+m) a) s /\
   aB s ⟨some ⟨g,0,none⟩,a⟩ ⟨r.e,r.size,r.n+m,r.xs++b⟩/\S.grownBy s h.XS/\(h.XS=some g∨S.heap.size<=g):=by
 rcases o.XP with ⟨p,w,E⟩ | ⟨g,y,p,w,E,e4,e5,e6⟩
 ·obtain⟨v',s,l,v,f,_⟩:=run_append_own (P:=P) S S.heap.size t C r.e i z r.size d F G U H V W X (slice none 0 0) 0 [] (Ty S _ r.e r.size) x m c b J I B (by omega) (by rw[w]at D;exact D) (Tq _);rcases v.2 with ⟨_,q⟩ | ⟨g,a,y,K,L,M,N,O,Q,R⟩
  ·omega
  ·refine⟨g,a,s,?_,⟨by have:=v.1;simpa [E,w] using this,TE ⟨g,a,y,by simp,Uc _,M,by simpa [w] using N,O,Q,by simpa [w,E] using R⟩⟩,?_,TE L⟩
   ·rw[p,w,l,K]
   ·rw[p];exact f
 ·by_cases Z:r.n+m<=h.cap
  ·obtain⟨s,l,v,f⟩:=run_append_fits (P:=P) S 0 t C r.e i r.size F G H g r.n h.cap r.xs (by have:=o;unfold aB at this;rw[p]at this;exact this) x m c b J I B Z;exact⟨g,h.cap,s,by rw[p,l],v,by unfold Hd.XS;rw[p];exact f,TH (by unfold Hd.XS;rw[p];rfl)⟩
  ·obtain⟨v',s,l,v,f⟩:=run_append_arg_grows (P:=P) S t C r.e i z r.size d F G U H V W X ⟨g,0,none⟩ r.n h.cap r.xs o.1 (by intro j u hj;rw[bY];exact o.cell p j u hj) x m c b J I (by omega) Y D;rcases v.2 with ⟨_,q⟩ | ⟨T,a,A,K,L,M,N,O,Q,R⟩
   ·omega
   ·exact⟨T,a,s,by rw[p,l,K],⟨v.1,TE ⟨T,a,A,rfl,Uc _,M,N,O,Q,R⟩⟩,⟨f.os,f.tape,f.output,f.size,fun k hk _=>f.block k hk (by simp)⟩,TE L⟩
theorem dd{K:Act->World->Prop}{E:Prop}(N:s.guard=none)(y x:Operand)(t:TypeId)(v:s.op=Op.call { callee:=Callee.builtin Builtin.append,args:=#[y,x],argTypes:=#[t,t] })(i:TypeInfo)(z:Value)(b:Nat)(h:Hd)(r:eR)(C:m.underlying t=some (.slice r.e))(D:m.info? r.e=some i)(F:i.zero=some z)(G:i.size=r.size)(H:i.bytes=b)(I:z.cells.size=r.size)(J:0<r.size)(Q:z5.eval y=slice h.ao r.n h.cap)(k:aB w h r)(p:Addr)(f c:Nat)(a:List Value)(S:z5.eval x=slice (some p) f c)(P:a.length=f*r.size)(M:∀j u,a[j]?=some u->w.cell? (p.add j)=some u)(q:∀u∈a,u.oneCell'=true)(O:0<f)(A:r.n+f<=maxLen)(B:(r.n+f)*b<=140737488355328)(L:∀g d o,aB o ⟨some ⟨g,0,none⟩,d⟩ ⟨r.e,r.size,r.n+f,r.xs++a⟩->w.grownBy o h.XS->(h.XS=some g∨w.heap.size<=g)->K (z5.put s.dst (slice (some ⟨g,0,none⟩) (r.n+f) d)) o) :
  if Region.wanted s (yielded y3 z5.tmps)=true then Oper.wp m s z5 w K y7 else E:=by
 have R:Region.wanted s (yielded y3 z5.tmps)=true:=by simp[Region.wanted,N]
 rw[Tr R];obtain⟨g,d,o,l,T,U,V⟩:=qV (P:=m) w t s.type i z b h r C D F G H I J k p f c a P M q O A B;unfold Oper.wp;simp[execOp,v,resolve,invoke,builtin,Q,S,l,Result.andThen];exact L g d o T U V
theorem dG{P:Program}(t e:TypeId)(i:TypeInfo)(z:Value)(f:P.underlying t=some (.slice e))(d:P.info? e=some i)(g:i.zero=some z)(n a:Nat)(b:i.size=a)(c:i.bytes*n<=281474976710656)(j:n<=1073741824) :
  (Instr.makeSlice t (int i64 n) (int i64 n)).run P S=.ok (slice (some ⟨S.heap.size,0,none⟩) n n) (S.alloc (.cells (madeCells z.cells (n*a)) e)):=by
 have:=run_make (P:=P) S t e i z f d g i64 i64 n n (by omega) (Wb _) (by have:=Int.ofNat_le.2 c;rw[Int.natCast_mul]at this;exact this) (by omega);simpa [b] using this
def jt(w:World)(x:Nat)(fs:Fs)(rep:Bool)(a b c:Value):Prop:=bO w x 80 fs [bool rep,a,b,c]
def PH:Value:=slice none 0 0
def kC(w:World)(x:Nat)(fs:Fs):Prop:=jt w x fs false PH PH PH
def lP(w:World)(x:Nat)(fs:Fs):Prop:=∃rep a b c,jt w x fs rep a b c
theorem kC.anyR{a:Fs}(h:kC w l a):lP w l a:=⟨_,_,_,_,h⟩
theorem jt.anyR{a:Fs}(h:jt w l a z6 i D M):lP w l a:=⟨_,_,_,_,h⟩
theorem kC.XR{a:Fs}(h:kC w l a)(k:ae x w T)(b:l∉x):kC T l a:=bO.XR h k b
theorem lP.XR{d:Fs}(h:lP w l d)(k:ae x w T)(e:l∉x):lP T l d:=by
 obtain⟨r,a,b,c,h⟩:=h;exact⟨r,a,b,c,bO.XR h k e⟩
theorem lP.lt{d:Fs}(h:lP w l d):l<w.heap.size:=by
 obtain⟨r,a,b,c,h⟩:=h;exact bO.lt h
theorem jt.cells{a:Fs}(h:jt w l a z6 i D M) :
  w.cell? ⟨l,9,none⟩=some (bool z6)/\w.cell? ⟨l,10,none⟩=some i/\w.cell? ⟨l,11,none⟩=some D/\w.cell? ⟨l,12,none⟩=some M:=by
 refine⟨?_,?_,?_,?_⟩ <;> (rw[ah h.1];rfl)
def Ey(w:World)(x:Nat)(rep:Bool)(a b c:Value):World:=(((w.setCell ⟨x,9,none⟩ (bool rep)).setCell ⟨x,10,none⟩ a).setCell ⟨x,11,none⟩ b).setCell ⟨x,12,none⟩ c
theorem jt.turn{e:Fs}(h:jt w l e z6 i D M)(a:Bool)(b c d:Value):jt (Ey w l a b c d) l e a b c d:=by
 refine⟨?_,h.2⟩;unfold Ey;rw[ab (ab (ab (ab h.1 9 (bool a)) 10 b) 11 c) 12 d];rfl
theorem GG(h:ae x w T)(d:l∈x∨w.heap.size<=l)(e:Bool)(a b c:Value):ae x w (Ey T l e a b c) :=
 (((h.setCell d _).setCell d _).setCell d _).setCell d _
theorem PG:Calls prog 28 #[] S fun e a=>e=returned (pointer (some ⟨S.heap.size,0,none⟩))/\kC a S.heap.size []/\ae [] S a:=by
 go_enter func28,ntmps28;go_wp2;go_ret;exact⟨rfl,⟨Tu _ _,by simp⟩,(ae.refl _ _).alloc _⟩
theorem xt(f:Fs)(w:World)(h:lP w H f) :
  Calls prog 34 #[pointer (some ⟨H,0,none⟩)] w fun e g=>e=returned (tuple #[])/\kC g H f/\ae [H] w g:=by
 obtain⟨l,a,b,c,h⟩:=h;obtain⟨m,i,j,k⟩:=h.cells;have n:=bO.free h;have d:Xr _:=h.turn false (slice none 0 0) (slice none 0 0) (slice none 0 0);unfold Ey at d;go_enter func34,ntmps34;go_wp2;go_end0;exact⟨rfl,d.o,GG (ae.refl _ _) (TH (by simp)) _ _ _ _⟩
theorem OB(f:Fs)(w:World)(h:lP w y f)(x:n.size<=1073741824)(u:b.size<=4294967296) :
  Calls prog 15 #[pointer (some ⟨y,0,none⟩),string n,string b] w fun e p=>e=returned (int i64 (fJ f n b).1)/\lP p y (fJ f n b).2/\((fJ f n b).1=0->kC p y (fJ f n b).2)/\ae [y] w p:=by
 obtain⟨i,a,j,c,h⟩:=h;have q:=IL y 80 n b f [bool i,a,j,c] w h x u;have d:Xr _:=q;clear q;generalize fJ f n b=z at *;obtain⟨t,k⟩:=z;simp only at d ⊢;cases v:(t==0)
 ·go_enter func15,ntmps15;go_wp2_with fail;refine Ts d.o ?_;rintro e s ⟨rfl,l,g⟩;go_wp2;go_ret;exact⟨rfl,⟨i,a,j,c,l⟩,fun e=>by subst e;simp at v,g⟩
 ·go_enter func15,ntmps15;go_wp2_with fail;refine Ts d.o ?_;rintro e s ⟨rfl,l,g⟩;go_wp2_with fail;refine(xt y k s ⟨i,a,j,c,l⟩).mono ?_;rintro e A ⟨rfl,r,m⟩;go_wp2;go_ret;exact⟨rfl,r.anyR,fun _=>r,g.trans m⟩
def de(f:Nat->Int):Nat->Int
 | 0=>0
 | n+1=>if(de f n==0)=true then f n else de f n
theorem ng{n:Nat}(a:de zt l=0)(h:(zt l==0)=false)(c:l<n):de zt n=zt l:=by
 induction n with
 | zero=>omega
 | succ n b =>
  rw[de];by_cases e:l=n
  ·subst e;rw[a];rfl
  ·rw[b (by omega),Tp (by rw[h];simp)]
def EM(fs:Fs)(i:Nat):Int:=if(dq (aG fs i) (ak fs i)==0)=false then dq (aG fs i) (ak fs i) else if 0<=bU (fs.take i) (aG fs i) then 4 else 0
def dU(fs:Fs):Int:=if 4<fs.length then 1 else de (EM fs) fs.length
def jX(fs0 fs:Fs):Fs:=if dU fs=0 then fs else fs0
theorem qJ{fs0 a:Fs}(h:dU a=y2)(b:y2≠0):jX fs0 a=fs0:=by unfold jX;rw[Tp (by rw[h];exact b)]
theorem z9{fs0 a:Fs}(h:dU a=0):jX fs0 a=a:=by unfold jX;rw[Tr h]
theorem Rn{n:Nat}(h:de zt n=0):∀i,i<n->zt i=0:=by
 induction n with
 | zero=>intro i b;omega
 | succ n c =>
  rw[de]at h;split at h
  ·next a =>
   intro i b;by_cases e:i=n
   ·rw[e];exact h
   ·exact c (Wh a) i (by omega)
  ·next a=>rw[h]at a;exact absurd rfl a
theorem PC{a:Fs}(h:dU a=0):a.length<=4/\∀j,j<a.length->(ak a j).size<=1024:=by
 unfold dU at h;split at h
 ·cases h
 ·refine⟨by omega,fun j c=>?_⟩;have b:=Rn h j c;unfold EM at b;split at b
  ·next e=>rw[b]at e;cases e
  ·next e =>
   unfold dq at e;split at e
   ·exact absurd rfl e
   ·split at e
    ·exact absurd rfl e
    ·omega
def mn(fs:Fs):Prop:=∀j,(aG fs j).size<=1073741824/\(ak fs j).size<=1073741824
theorem Bo:(prog.info? 68).map (fun i=>(i.zero,i.size,i.bytes))=some (some (agg #[string ⟨#[]⟩,string ⟨#[]⟩]),2,32):=by kernel_rfl
def QH(f:Xs×Xs):List Value:=[string f.1,string f.2]
def rT(fs:Fs):List Value:=fs.flatMap QH
def cY(fs:Fs):eR:=⟨68,2,fs.length,rT fs⟩
theorem wJ(a:Fs):(rT a).length=a.length*2:=by
 induction a with
 | nil=>rfl
 | cons t L b=>rw[rT,Uv,Tv,show L.flatMap QH=rT L from rfl,b];simp[QH];omega
theorem xB(b:Fs)(j:Nat)(h:j<b.length):(rT b)[j*2]?=some (string (aG b j))/\(rT b)[j*2+1]?=some (string (ak b j)):=by
 induction b generalizing j with
 | nil=>simp at h
 | cons a L f =>
  have e:rT (a :: L)=string a.1 :: string a.2 :: rT L:=rfl;cases j with
  | zero=>exact⟨rfl,rfl⟩
  | succ j =>
   obtain⟨c,d⟩:=f j (by simpa using h);rw[e,show(j+1)*2=j*2+1+1 by omega];exact⟨c,d⟩
theorem Il(b:Fs)(k:Nat)(n d:Xs)(h:k<b.length):((rT b).set (k*2) (string n)).set (k*2+1) (string d)=rT (b.set k (n,d)):=by
 induction b generalizing k with
 | nil=>simp at h
 | cons a L c =>
  have e:∀x:Xs×Xs,rT (x :: L)=string x.1 :: string x.2 :: rT L:=fun _=>rfl;cases k with
  | zero=>rfl
  | succ k =>
   rw[Vi,show(k+1)*2=k*2+1+1 by omega,e];show _=string a.1 :: string a.2 :: rT (L.set k (n,d));rw[<-c k (by simpa using h)];rfl
theorem yx(a:Fs)(t:Xs×Xs):(⟨(cY a).e,(cY a).size,(cY a).n+1,(cY a).xs++QH t⟩:eR)=cY (a++[t]):=by
 simp[cY,rT]
theorem Ik(a:Fs):∀u∈rT a,u.oneCell'=true:=by
 intro u b;obtain⟨x,-,h⟩:=VK.1 b;unfold QH at h;simp only[List.mem_cons,List.not_mem_nil,or_false]at h;rcases h with rfl | rfl <;> rfl
structure It where
 B:Xv
 P:World->Prop
 lt:∀w,P w->∀b,b∈B->b<w.heap.size
 ok:∀S w w',P w->ae S w w'->(∀b,b∈B->b∉S)->P w'
def ee(I:Nat×Nat->It)(k:Nat×Nat)(it:It):Nat×Nat->It:=fun q=>if q=k then it else I q
theorem bA(I:Nat×Nat->It)(k:Nat×Nat)(a:It):ee I k a k=a:=by unfold ee;rw[Tr rfl]
theorem Tl(I:Nat×Nat->It){k q:Nat×Nat}(a:It)(h:q≠k):ee I k a q=I q:=by unfold ee;rw[Tp h]
theorem bm(h:l≠y4):((l,f):Nat×Nat)≠(y4,y5):=fun e=>h (by cases e;rfl)
theorem vh(h:f≠y5):((l,f):Nat×Nat)≠(y4,y5):=fun e=>h (by cases e;rfl)
structure ov(w:World)(I:Nat×Nat->It):Prop where
 all:∀k,(I k).P w
 far:∀k k',k≠k'->∀b,b∈(I k).B->b∉(I k').B
theorem ov.XE{I:Nat×Nat->It}(h:ov w I)(k:ae [] w T):ov T I :=
 ⟨fun q=>(I q).ok [] w T (h.all q) k (fun _ _ a=>by cases a),h.far⟩
theorem ov.put{I:Nat×Nat->It}(h:ov w I)(k:Nat×Nat)(d:It)(K:ae (I k).B w T)(m:d.P T)(l:∀b,b∈d.B->b∈(I k).B∨w.heap.size<=b):ov T (ee I k d):=by
 refine⟨fun q=>?_,fun q f i b a c=>?_⟩
 ·by_cases e:q=k
  ·subst e;rw[bA];exact m
  ·rw[Tl I d e];exact(I q).ok _ w T (h.all q) K (fun b a=>h.far q k e b a)
 ·by_cases e:q=k
  ·subst e;rw[bA]at a;rw[Tl I d (Ne.symm i)]at c;rcases l b a with g | g
   ·exact h.far q f i b g c
   ·have:=(I f).lt w (h.all f) b c;omega
  ·rw[Tl I d e]at a;by_cases j:f=k
   ·subst j;rw[bA]at c;rcases l b c with g | g
    ·exact h.far q f i b a g
    ·have:=(I q).lt w (h.all q) b a;omega
   ·rw[Tl I d j]at c;exact h.far q f i b a c
theorem ov.put2{I:Nat×Nat->It}(h:ov w I)(c d:Nat×Nat)(A:c≠d)(j k:It)(K:ae ((I c).B++(I d).B) w T)(D:j.P T)(E:k.P T)(y:∀b,b∈j.B->b∈(I c).B∨w.heap.size<=b)(z:∀b,b∈k.B->b∈(I d).B∨w.heap.size<=b)(u:∀b,b∈j.B->b∉k.B):ov T (ee (ee I c j) d k):=by
 have e:∀q,q≠c->q≠d->∀b,b∈(I q).B->b∉j.B/\b∉k.B:=fun q f a b m=>by
  have:=(I q).lt w (h.all q) b m;refine⟨fun x=>?_,fun x=>?_⟩
  ·rcases y b x with p | p
   ·exact h.far q c f b m p
   ·omega
  ·rcases z b x with p | p
   ·exact h.far q d a b m p
   ·omega
 have s:ee (ee I c j) d k c=j:=by rw[Tl _ _ A,bA]
 have t:ee (ee I c j) d k d=k:=bA _ _ _;have o:∀q,q≠c->q≠d->ee (ee I c j) d k q=I q:=fun q f a=>by rw[Tl _ _ a,Tl _ _ f]
 refine⟨fun q=>?_,fun q i r b f a=>?_⟩
 ·by_cases l:q=c
  ·subst l;rw[s];exact D
  ·by_cases g:q=d
   ·subst g;rw[t];exact E
   ·rw[o q l g];exact(I q).ok _ w T (h.all q) K (fun b m C=>(Ug.1 C).elim (h.far q c l b m) (h.far q d g b m))
 ·by_cases l:q=c
  ·subst l;rw[s]at f;by_cases g:i=d
   ·subst g;rw[t]at a;exact u b f a
   ·rw[o i (Ne.symm r) g]at a;exact(e i (Ne.symm r) g b a).1 f
  ·by_cases g:q=d
   ·subst g;rw[t]at f;by_cases n:i=c
    ·subst n;rw[s]at a;exact u b a f
    ·rw[o i n (Ne.symm r)]at a;exact(e i n (Ne.symm r) b a).2 f
   ·rw[o q l g]at f;by_cases n:i=c
    ·subst n;rw[s]at a;exact(e q l g b f).1 a
    ·by_cases v:i=d
     ·subst v;rw[t]at a;exact(e q l g b f).2 a
     ·rw[o i n v]at a;exact h.far q i r b f a
structure Tk where
 s:Xs
 X6:Int
 XZ:Xs
 X0:Int
 X3:Int
def Ct(t:Tk):List Value:=[string t.s,int i64 t.X6,string t.XZ,int i64 t.X0,int i64 t.X3]
def RO(L:List Tk):List Value:=L.flatMap Ct
def ji(L:List Tk):eR:=⟨138,5,L.length,RO L⟩
theorem RH(L:List Tk)(j:Nat)(t:Tk)(h:L[j]?=some t)(c:Nat)(d:c<5):(RO L)[j*5+c]?=(Ct t)[c]?:=by
 induction L generalizing j with
 | nil=>cases h
 | cons a L b =>
  have e:RO (a :: L)=Ct a++RO L:=rfl;cases j with
  | zero =>
   simp at h;subst h;rw[e,TQ (by simp[Ct];omega)];simp
  | succ j =>
   rw[e,TJ (by simp[Ct];omega),show(j+1)*5+c-(Ct a).length=j*5+c by simp[Ct];omega];exact b j (by simpa using h)
theorem Ak(L:List Tk)(t:Tk):(⟨(ji L).e,(ji L).size,(ji L).n+1,(ji L).xs++Ct t⟩:eR)=ji (L++[t]):=by
 simp[ji,RO]
def dJ(d:Xs):Nat->Nat
 | 0=>0
 | i+1=>if dn (aI d i)=true then i+1 else dJ d i
def na(nm d:Xs)(s:Xs)(r:Int)(k:Nat):Tk:=⟨s,r,nm,aU d k,bJ d k⟩
def jO(nm d:Xs)(a z:Nat)(L:List Tk):List Tk:=if a=z then L else L++[na nm d (d.extract a z) 0 a]
def jN(nm d:Xs):Nat->List Tk
 | 0=>[]
 | i+1=>if dn (aI d i)=true then jO nm d (dJ d i) i (jN nm d i) else jN nm d i
def rR(n:Int):Bool:=!fV n && !dn n
def ke(d:Xs):Option Nat:=(List.range d.size).find? (fun i=>rR (aI d i))
def iY(nm d:Xs):List Tk:=match ke d with
 | some i=>jN nm d i++[na nm d ⟨#[]⟩ 1 i]
 | none=>jO nm d (dJ d d.size) d.size (jN nm d d.size)++[na nm d ⟨#[]⟩ 0 d.size]
theorem pq(i:Nat):dJ b i<=i:=by
 induction i with
 | zero=>exact Tq _
 | succ i a=>rw[dJ];split <;> omega
theorem vH(L:List Tk):(jO n b v H L).length<=L.length+1:=by
 unfold jO;split <;> simp
theorem yW(i:Nat):(jN n b i).length<=i:=by
 induction i with
 | zero=>exact Tq _
 | succ i a =>
  rw[jN];split
  ·have:=vH n b (dJ b i) i (jN n b i);omega
  ·omega
theorem AJ:(iY n b).length<=b.size+2:=by
 unfold iY;split
 ·next i h =>
  have:=TG.1 (Us h);have:=yW n b i;simp;omega
 ·have:=vH n b (dJ b b.size) b.size (jN n b b.size);have:=yW n b b.size;simp;omega
def tp(s u:Xs)(i:Nat):Bool:=((s.extract i (i+u.size)).toList==u.toList)
def ij(s u:Xs):Bool:=(List.range (s.size+1)).any (fun i=>decide (i+u.size<=s.size)&&tp s u i)
def EL(t:Xs)(l:List UInt8):Bool:=(t.toList==l)
def b7:Bool->List Tk->List Tk
 | _,[]=>[]
 | false,t :: r=>if EL t.s [36,40]=true then b7 true r else t :: b7 false r
 | true,t :: r =>
  if(t.X6==0)=false then t :: b7 true r
  else if EL t.s [36,41]=true then b7 false r
  else if EL t.s []=true then⟨⟨#[]⟩,3,t.XZ,t.X0,t.X3⟩ :: b7 true r
  else if(ij t.s ⟨#[36,40]⟩||ij t.s ⟨#[36,41]⟩)=true then [⟨⟨#[]⟩,2,t.XZ,t.X0,t.X3⟩]
  else b7 true r
theorem Mp(b:Bool)(L:List Tk):(b7 b L).length<=L.length:=by
 induction L generalizing b with
 | nil=>cases b <;> simp[b7]
 | cons t L a =>
  have c:=a true;have d:=a false;cases b
  ·rw[b7];split <;> simp <;> omega
  ·rw[b7]
   repeat' split
   all_goals (simp;try omega)
def lD(w:World)(ao:Xu)(fs:Fs):Prop:=∀k,k<fs.length->∃g o,ao=some ⟨g,o,none⟩/\g<w.heap.size/\w.cell? ⟨g,o+k*2,none⟩=some (string (aG fs k))/\w.cell? ⟨g,o+k*2+1,none⟩=some (string (ak fs k))
theorem lD.XR{a:Xu}{c:Fs}(h:lD w a c)(k:ae x w T)(m:∀b,a=some b->b.block∉x):lD T a c:=by
 intro j n;obtain⟨g,o,e,d,f,l⟩:=h j n;have q:∀i,T.cell? ⟨g,i,none⟩=w.cell? ⟨g,i,none⟩:=fun i=>TO (k.block g d (m _ e));exact⟨g,o,e,Tw d k.size,by rw[q];exact f,by rw[q];exact l⟩
theorem Pf(a:Fs)(k:Nat)(h:k<a.length):a.take k++[(aG a k,ak a k)]=a.take (k+1):=by
 rw[Ws,Tn h];unfold aG ak;rw[To,Tn h];rfl
def Ev(w:World)(v:Nat)(fs:Fs):World:=((((((((w.setCell ⟨v,0,none⟩ (string (aG fs 0))).setCell ⟨v,1,none⟩ (string (ak fs 0))).setCell ⟨v,2,none⟩ (string (aG fs 1))).setCell ⟨v,3,none⟩ (string (ak fs 1))).setCell ⟨v,4,none⟩ (string (aG fs 2))).setCell ⟨v,5,none⟩ (string (ak fs 2))).setCell ⟨v,6,none⟩ (string (aG fs 3))).setCell ⟨v,7,none⟩ (string (ak fs 3))).setCell ⟨v,8,none⟩ (int i64 fs.length)
theorem Oh(c a:Fs)(b:List Value):(((((((((pS c++b).set 0 (string (aG a 0))).set 1 (string (ak a 0))).set 2 (string (aG a 1))).set 3 (string (ak a 1))).set 4 (string (aG a 2))).set 5 (string (ak a 2))).set 6 (string (aG a 3))).set 7 (string (ak a 3))).set 8 (int i64 a.length)=pS a++b:=rfl
theorem bO.over{b a:Fs}(h:bO w l f b L)(c:a.length<=4):bO (Ev w l a) l f a L:=by
 refine⟨?_,c⟩;unfold Ev;rw[ab (ab (ab (ab (ab (ab (ab (ab (ab h.1 0 _) 1 _) 2 _) 3 _) 4 _) 5 _) 6 _) 7 _) 8 _];simp only[List.setIfInBounds_toArray,Oh]
theorem GF(h:ae x w T)(a:l∈x∨w.heap.size<=l)(b:Fs):ae x w (Ev T l b) :=
 ((((((((h.setCell a _).setCell a _).setCell a _).setCell a _).setCell a _).setCell a _).setCell a _).setCell a _).setCell a _
theorem bO.nine{a:Fs}(h:bO w l f a L) :
  w.cell? ⟨l,0,none⟩=some (string (aG a 0))/\w.cell? ⟨l,1,none⟩=some (string (ak a 0))/\w.cell? ⟨l,2,none⟩=some (string (aG a 1))/\w.cell? ⟨l,3,none⟩=some (string (ak a 1))/\w.cell? ⟨l,4,none⟩=some (string (aG a 2))/\w.cell? ⟨l,5,none⟩=some (string (ak a 2))/\w.cell? ⟨l,6,none⟩=some (string (aG a 3))/\w.cell? ⟨l,7,none⟩=some (string (ak a 3))/\w.cell? ⟨l,8,none⟩=some (int i64 a.length):=by
 refine⟨?_,?_,?_,?_,?_,?_,?_,?_,?_⟩ <;> (rw[ah h.1];rfl)
set_option maxRecDepth 100000
theorem J3(b a:Fs)(c:List Value)(X:Xu)(Y:Nat)(w:World)(h:bO w v H b c)(hS:lD w X a)(I:mn a) :
  Calls prog 49 #[pointer (some ⟨v,0,none⟩),slice X a.length Y] w fun e j=>e=returned (int i64 (dU a))/\bO j v H (jX b a) c/\ae [v] w j:=by
 have J:Xr (bO w v H b c):=h;by_cases h4:4<a.length
 ·have A:Xr (dU a=1):=by show _=_;unfold dU;rw[Tr h4]
  have P:Xr _:=(qJ (fs0:=b) A.o (by decide));rw[A.o];have ac:(4:Int)<a.length:=by omega
  clear h;go_enter func49,ntmps49;go_wp2;go_ret;exact⟨rfl,by rw[P.o];exact J.o,ae.refl _ _⟩
 ·have A:Xr (dU a=de (EM a) a.length):=by show _=_;unfold dU;rw[Tp h4]
  obtain⟨r,K⟩:=bn (dU a);rw[K.o]at A ⊢;have ac:¬(4:Int)<a.length:=by omega
  have HS:Xr (lD w X a):=hS;have D:Xr _:=I;obtain⟨W,R⟩:=bn (w.alloc (.cells #[string ⟨#[]⟩,string ⟨#[]⟩,string ⟨#[]⟩,string ⟨#[]⟩,string ⟨#[]⟩,string ⟨#[]⟩,string ⟨#[]⟩,string ⟨#[]⟩,int i64 0] 73));have O:Xr _:=fI R.o;have Q:Xr (bO W w.heap.size 73 (a.take 0) []):=by show bO _ _ _ _ _;rw[<-R.o];exact⟨Tu _ _,by simp⟩
  clear h hS I;go_enter func49,ntmps49;go_upto_region 4 with fail
  rw[R.o];go_wp2
  go_loopg [6] a.length (fun g iv wr=>∃k:Nat,k<=a.length/\g=a.length-k/\iv=int i64 k/\Xr (de (EM a) k=0)/\Xr (bO wr w.heap.size 73 (a.take k) [])/\Xr (ae [] w wr))
  ·exact⟨0,by omega,rfl,rfl,rfl,Q,O⟩
  obtain⟨k,hk,hg,rfl,T,y,t⟩:=hrel;rcases kn k a.length with ⟨m,an⟩ | ⟨m,-⟩
  ·obtain⟨F,o0,rfl,s,c0,c1⟩:=(lD.XR HS.o t.o (by simp)) k m;have HC:Xr (∀j,ae [] wr j->j.cell? ⟨F,o0+k*2,none⟩=some (string (aG a k))/\j.cell? ⟨F,o0+k*2+1,none⟩=some (string (ak a k))/\F<j.heap.size):=fun j kw=>⟨by rw[TO (kw.block F s (by simp))];exact c0,by rw[TO (kw.block F s (by simp))];exact c1,Tw s kw.size⟩
   have B:Xr (∀d,Calls prog 50 #[string (aG a k),string (ak a k)] d fun e j=>e=returned (int i64 (dq (aG a k) (ak a k)))/\j=d):=fun d=>oP _ _ d (D.o k).1 (by have:=(D.o k).2;omega);have u:Xr (∀d,bO d w.heap.size 73 (a.take k) []->Calls prog 51 #[pointer (some ⟨w.heap.size,0,none⟩),string (aG a k)] d fun e j=>e=returned (int i64 (bU (a.take k) (aG a k)))/\j=d):=fun d hx=>mv _ _ _ _ _ d hx;have hl:(a.take k).length=k:=(by rw[UJ];omega);have M:Xr (∀d,bO d w.heap.size 73 (a.take k) []->Calls prog 52 #[pointer (some ⟨w.heap.size,0,none⟩),agg #[string (aG a k),string (ak a k)]] d fun e j=>e=returned (tuple #[])/\bO j w.heap.size 73 (a.take (k+1)) []/\ae [w.heap.size] d j):=fun d hx=>by
    rw[<-Pf a k m];exact Hj _ _ _ _ _ _ d hx (by rw[hl];omega)
   have l:Xr (EM a k=if(dq (aG a k) (ak a k)==0)=false then dq (aG a k) (ak a k) else if 0<=bU (a.take k) (aG a k) then 4 else 0):=rfl;have C:Xr ((EM a k==0)=false->r=EM a k):=fun q=>by rw[A.o];exact ng T.o q m
   have N:Xr (EM a k=0->de (EM a) (k+1)=0):=fun q=>by rw[de,T.o];exact q
   clear hl;generalize aG a k=nm at *;generalize ak a k=dt at *;obtain⟨Z,U⟩:=bn (dq nm dt);rw[U.o]at B l;obtain⟨fi,V⟩:=bn (bU (a.take k) nm);rw[V.o]at u l;(go_upto_region 7 with fail);go_region_with (go_at_call 50;refine(B.o _).mono ?_;rintro e L ⟨rfl,ai⟩)
   all_goals
    subst ai;obtain⟨L,H9⟩:=bn (wr.drew);rw[H9.o];have f:Xr (ae [] wr L):=by show ae _ _ _;rw[<-H9.o];exact(ae.refl [] wr).drew
    clear c0 c1 s;cases i:(Z==0)
    ·rw[i,Tr rfl]at l;have p:Xr _:=(C.o (by rw[l.o];exact i));rw[l.o]at p;have ad:(Z != 0)=true:=(by unfold bne;rw[i];rfl);go_wp2;go_ret;exact⟨au p.o.symm,by rw[qJ (K.o.trans p.o) (fun q=>by rw[q]at i;cases i)];exact bO.XR J.o (t.o.trans f.o) (by simp),(t.o.trans f.o).mono (by simp)⟩
    ·rw[i,Tp (by simp)]at l;have ad:(Z != 0)=false:=(by unfold bne;rw[i];rfl);obtain⟨d0,d1,d2⟩:=HC.o L f.o;have x:Xr (bO L w.heap.size 73 (a.take k) []):=bO.XR y.o f.o (by simp);by_cases G:0<=fi
     ·rw[Tr G]at l;have p:Xr _:=(C.o (by rw[l.o];rfl));rw[l.o]at p;go_wp2_with (go_at_call 51;refine(u.o _ x.o).mono ?_;rintro e w8 ⟨rfl,n⟩;rw[n];clear n);go_ret;exact⟨au p.o.symm,by rw[qJ (K.o.trans p.o) (by decide)];exact bO.XR J.o (t.o.trans f.o) (by simp),(t.o.trans f.o).mono (by simp)⟩
     ·rw[Tp G]at l;have HM:Xr _:=N.o l.o;(go_upto_region 12 with (go_at_call 51;refine(u.o _ x.o).mono ?_;rintro e w8 ⟨rfl,n⟩;rw[n];clear n));go_wp2_with (go_at_call 52;refine(M.o _ x.o).mono ?_;rintro e w8 ⟨rfl,ag,af⟩);go_roundg (a.length-(k+1))
      ·exact⟨k+1,by omega,rfl,by go_num,HM,ag,((t.o.trans f.o).mono (S':=[w.heap.size]) (by simp)).trans af |>.mono (fun q hq m=>by simp at hq;omega)⟩
      omega
  ·have e:k=a.length:=(by omega);subst e;have p:Xr (r=0):=ci (by rw[A.o];exact T.o);have ap:¬(a.length:Int)<a.length:=by omega
   rw[UO]at y;obtain⟨q0,q1,q2,q3,q4,q5,q6,q7,q8⟩:=bO.nine y.o;have z:Xr (bO wr v H b c):=bO.XR J.o t.o (by simp);obtain⟨p0,p1,p2,p3,p4,p5,p6,p7,p8⟩:=bO.nine z.o;have al:=bO.free z.o;have E:Xr (bO (Ev wr v a) v H a c):=bO.over z.o (by omega);unfold Ev at E;have S:Xr _:=z9 (fs0:=b) (K.o.trans p.o);go_wp2;go_ret;exact⟨au p.o.symm,by rw[S.o];exact E.o,GF (t.o.mono (by simp)) (TH (by simp)) _⟩
def SL(w':World)(x:Nat)(fs0 fs:Fs)(rep:Bool)(a b c:Value):Prop:=(dU fs=0->kC w' x (jX fs0 fs))/\(dU fs≠0->jt w' x (jX fs0 fs) rep a b c)
set_option maxRecDepth 512
theorem LF(d g:Fs)(f:Bool)(a b c:Value)(l:Xu)(k:Nat)(w:World)(h:jt w H d f a b c)(x:lD w l g)(r:mn g) :
  Calls prog 31 #[pointer (some ⟨H,0,none⟩),slice l g.length k] w fun e s=>e=returned (int i64 (dU g))/\SL s H d g f a b c/\ae [H] w s:=by
 unfold SL;have j:Xr _:=J3 H 80 d g [bool f,a,b,c] l k w h x r;generalize dU g=u at *;generalize jX d g=m at *;cases p:(u==0)
 ·go_enter func31,ntmps31;go_wp2_with (go_at_call 49;refine Ts j.o ?_;rintro e t ⟨rfl,n,i⟩);go_ret;exact⟨rfl,⟨(fun e=>by rw[e]at p;cases p),fun _=>n⟩,i⟩
 ·go_enter func31,ntmps31;go_upto_region 3 with (go_at_call 49;refine Ts j.o ?_;rintro e t ⟨rfl,n,i⟩)
  go_wp2_with (go_at_call 34;refine(xt H m t ⟨f,a,b,c,n⟩).mono ?_;rintro e y ⟨rfl,v,q⟩);go_ret;exact⟨rfl,⟨fun _=>v,fun e=>absurd (Wh p) e⟩,i.trans q⟩
theorem Qx(f:Fs)(d:Bool)(a i c:Value)(w:World)(h:jt w y f d a i c)(s:n.size<=1073741824)(r:b.size<=4294967296)(k:(fJ f n b).1≠0) :
  Calls prog 15 #[pointer (some ⟨y,0,none⟩),string n,string b] w fun e l=>e=returned (int i64 (fJ f n b).1)/\jt l y (fJ f n b).2 d a i c/\ae [y] w l:=by
 have g:Xr _:=IL y 80 n b f [bool d,a,i,c] w h s r;generalize fJ f n b=t at *;obtain⟨m,p⟩:=t;simp only at g k ⊢;have u:(m==0)=false:=TU.2 k;clear k;go_enter func15,ntmps15;go_wp2_with (go_at_call 33;refine Ts g.o ?_;rintro e v ⟨rfl,q,j⟩);go_ret;exact⟨rfl,q,j⟩
theorem EE(f:Fs)(n:Xs)(d:Bool)(a b c:Value)(w:World)(h:jt w H f d a b c)(A:bU f n<0) :
  Calls prog 37 #[pointer (some ⟨H,0,none⟩),string n] w fun e k=>e=returned (tuple #[agg #[int i64 0,string ⟨#[]⟩,int i64 0,int i64 0],int i64 5])/\jt k H f d a b c/\ae [H] w k:=by
 obtain⟨W,p⟩:=bn (w.alloc (.cells #[int i64 0,string ⟨#[]⟩,int i64 0,int i64 0] 87));have m:Xr _:=fI p.o;have q:=f9 p.o;have r:jt W H f d a b c:=bO.XR h m.o (by simp);obtain⟨z,i⟩:=bn (bU f n);rw[i.o]at A;have l:Xr (Calls prog 51 #[pointer (some ⟨H,0,none⟩),string n] W fun e k=>e=returned (int i64 z)/\k=W):=by
  show Calls _ _ _ _ _;rw[<-i.o];exact mv H _ f _ n W r
 obtain⟨B,C,D,E⟩:=CK q;have G:=am q;have g:Xr (∀s t u x,ae [] w ((((W.setCell ⟨w.heap.size,0,none⟩ s).setCell ⟨w.heap.size,1,none⟩ t).setCell ⟨w.heap.size,2,none⟩ u).setCell ⟨w.heap.size,3,none⟩ x)):=fun s t u x=>(((m.o.sr1 (Tq _) _).sr1 (Tq _) _).sr1 (Tq _) _).sr1 (Tq _) _;have y:Xr (jt w H f d a b c):=h;clear h r q m;go_enter func37,ntmps37;go_upto_region 1 with fail
 rw[p.o];go_wp2_with (go_at_call 51;refine Ts l.o ?_;rintro e F ⟨rfl,j⟩;rw[j];clear j);exact Tz (v:=tuple #[agg #[int i64 0,string ⟨#[]⟩,int i64 0,int i64 0],int i64 5]) (by simp[results,results37,go_sem,B,C,D,E]) rfl ⟨rfl,bO.XR y.o (g.o _ _ _ _) (by simp),(g.o _ _ _ _).mono (by simp)⟩
end Go.Proofs.YtnbhnocdhbcbcaaGreat
