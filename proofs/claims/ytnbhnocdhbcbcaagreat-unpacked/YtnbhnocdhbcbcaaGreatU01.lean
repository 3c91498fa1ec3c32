import Derived.Test.YtnbhnocdhbcbcaaGreatChecked
import Derived.WalkKit
import Derived.WalkSpells
import Derived.WalkLawsBesides
import Derived.Deep.QuietTactic
import Derived.BigQuiet
import Derived.Deep.LoopGhost
import Derived.Laws.CopyRow
import Derived.Laws.MakeOwn
import Derived.Deep.RegionLaw
import Derived.Deep.RegionHeld3
import Derived.Deep.CutRange
namespace Go.Proofs.YtnbhnocdhbcbcaaGreat
open Go.RowKit Tryz
open Value IntKind Ending
set_option maxHeartbeats 0
abbrev Xs:=ByteArray
abbrev Xt:=List ByteArray
abbrev Xu:=Option Addr
abbrev Xv:=List Nat
variable{x:Xv}{w T:World}{l f y4 y5:Nat}{g:Array Value}{y6:Obj}{m:Program}{i D M z4 z7 y1:Value}{z6:Bool}{y2:Int}{N a:Xs}{L:List Value}{y3:Array Oper}{s:Oper}{z5:Act}{y7:Exit->Act->World->Prop}{zt:Nat->Int}(d:Xs)(I y:Nat)(n b:Xs)(y0:Int)(S:World)(v H:Nat)
def Xr(p:Prop):Prop:=p
theorem Xr.o{p:Prop}(h:Xr p):p:=h
abbrev Ub:=@List.getElem?_eq_getElem
abbrev Uc:=@List.getD_eq_getElem?_getD
abbrev Ud:=@if_neg
abbrev Ue:=@Nat.le_refl
abbrev Uf:=@if_pos
abbrev Ug:=@Go.Calls.mono
abbrev Uh:=@List.length_append
abbrev Ui:=@Go.heap_alloc_new
abbrev Uj:=@Go.World.ownsRow_nil
abbrev Uk:=@List.getElem?_eq_some_iff
abbrev Ul:=@Nat.lt_of_lt_of_le
abbrev Um:=@Go.bodyPost_ret
abbrev Un:=@Nat.le_trans
abbrev Uo:=@Or.inr
abbrev Up:=@List.mem_range
abbrev Uq:=@List.mem_singleton
abbrev Ur:=@List.getElem?_append_right
abbrev Us:=@Or.inl
abbrev Ut:=@Go.RowKit.Below.heap_setCell
abbrev Uu:=@List.getElem_mem
abbrev Uv:=@List.getElem?_append_left
abbrev Uw:=@Go.World.cell?_of_block
abbrev Ux:=@Bool.and_eq_true
abbrev Uy:=@List.length_map
abbrev Uz:=@beq_eq_false_iff_ne
abbrev UA:=@Nat.one_pos
abbrev UB:=@List.drop_eq_getElem_cons
abbrev UC:=@Go.info_parts
abbrev UD:=@Go.Calls.quiet_of_same
abbrev UE:=@List.append_nil
abbrev UF:=@Nat.zero_le
abbrev UG:=@List.mem_append
abbrev UH:=@List.mem_cons
abbrev UI:=@List.eq_nil_of_length_eq_zero
abbrev UJ:=@List.map_append
abbrev UK:=@List.length_cons
abbrev UL:=@List.getElem?_map
abbrev UM:=@List.mem_cons_of_mem
abbrev UN:=@List.mem_cons_self
abbrev UO:=@Bool.or_eq_true
abbrev UP:=@List.mem_filter
abbrev UQ:=@Bool.false_eq_true
abbrev UR:=@Int.toNat_natCast
abbrev US:=@Go.ByteArray.toList_eq
abbrev UT:=@List.getElem?_eq_none
abbrev UU:=@List.length_nil
abbrev UV:=@List.mem_of_find?_eq_some
abbrev UW:=@List.any_eq_true
abbrev UX:=@List.length_drop
abbrev UY:=@List.take_succ_eq_append_getElem
abbrev UZ:=@List.length_set
abbrev U0:=@List.setIfInBounds_toArray
abbrev U3:=@Nat.sub_self
abbrev U4:=@List.flatMap_cons
abbrev U5:=@List.all_eq_true
abbrev U6:=@List.length_take
abbrev U7:=@List.getElem_of_mem
abbrev U8:=@List.find?_eq_none
abbrev U9:=@List.drop_append_of_le_length
abbrev Vb:=@Nat.le_of_lt
abbrev Vc:=@List.mem_append_left
abbrev Vd:=@List.not_mem_nil
abbrev Ve:=@List.getElem?_set
abbrev Vf:=@List.mem_map
abbrev Vg:=@List.take_append_of_le_length
abbrev Vh:=@decide_eq_true_eq
abbrev Vi:=@List.filter_append
abbrev Vj:=@Nat.add_sub_cancel
abbrev Vk:=@List.take_length
abbrev Vl:=@Bool.or_eq_false_iff
abbrev Vm:=@List.drop_of_length_le
abbrev Vn:=@Bool.false_or
abbrev Vo:=@Bool.eq_iff_iff
abbrev Vp:=@List.find?_range_eq_some
abbrev Vq:=@List.mem_of_getElem?
abbrev Vr:=@List.range_succ
abbrev Vs:=@List.append_assoc
abbrev Vt:=@beq_iff_eq
abbrev Vu:=@List.mem_append_right
abbrev Vv:=@Go.IntKind.wrap_i64
abbrev Vw:=@Option.some.inj
abbrev Vx:=@decide_eq_false
abbrev Vy:=@decide_eq_true
abbrev Vz:=@List.flatMap_append
abbrev VB:=@if_false
abbrev VC:=@List.getElem?_replicate
abbrev VD:=@Nat.add_zero
abbrev VG:=@List.take_of_length_le
abbrev VH:=@Go.size_madeCells
abbrev VI:=@Bool.true_and
abbrev VJ:=@List.filter_cons_of_neg
abbrev VK:=@List.drop_zero
abbrev VL:=@List.takeWhile_cons_of_pos
abbrev VM:=@Bool.or_false
abbrev VN:=@List.length_range
abbrev VO:=@List.length_filter_le
abbrev VP:=@List.find?_some
abbrev VQ:=@List.getElem?_drop
abbrev VR:=@List.getElem?_cons_succ
abbrev VS:=@List.getElem?_cons_zero
abbrev VT:=@List.length_dropLast
abbrev VU:=@List.filter_cons_of_pos
abbrev VW:=@List.map_cons
abbrev VX:=@or_false
abbrev VY:=@List.foldl_append
abbrev VZ:=@List.ext_getElem?
abbrev V3:=@Nat.zero_add
abbrev V4:=@List.take_zero
abbrev V5:=@List.takeWhile_cons_of_neg
abbrev V6:=@List.map_congr_left
abbrev V7:=@List.getElem?_range
abbrev V8:=@List.getLast?_eq_getElem?
abbrev V9:=@List.set_append_right
abbrev Wa:=@List.length_singleton
abbrev Wb:=@List.set_cons_succ
abbrev Wc:=@List.cons_append
abbrev Wd:=@Go.wp_loop_rounds
abbrev We:=@List.getLast?_eq_some_getLast
abbrev Wf:=@List.mem_of_mem_take
abbrev Wg:=@List.getLast?_concat
abbrev Wh:=@Bool.true_or
abbrev Wi:=@List.mem_flatMap
abbrev Wj:=@Nat.mul_le_mul
abbrev Wk:=@List.mem_filterMap
abbrev Wl:=@Bool.false_and
abbrev Wm:=@List.contains_iff_mem
abbrev Wn:=@List.pairwise_iff_getElem
abbrev Wo:=@List.map_set
abbrev Wp:=@List.any_cons
abbrev Wq:=@List.flatMap_def
abbrev Wr:=@List.drop_length
abbrev Ws:=@List.length_eq_zero_iff
abbrev Wt:=@Go.rounds_succ
abbrev Wu:=@List.getElem?_take
abbrev Wv:=@ByteArray.size_extract
abbrev Ww:=@List.drop_eq_nil_of_le
abbrev Wx:=@List.filter_eq_nil_iff
abbrev Wy:=@List.pairwise_lt_range
abbrev Wz:=@List.nil_append
abbrev WA:=@List.foldl_cons
abbrev WB:=@List.dropLast_concat_getLast
abbrev WC:=@Nat.add_assoc
abbrev WD:=@Bool.or_assoc
abbrev WE:=@List.filterMap_append
abbrev WF:=@List.take_append_drop
abbrev WG:=@List.take_add_one
abbrev WH:=@List.any_eq_false
abbrev WJ:=@List.getElem_drop
abbrev WK:=@Int.le_refl
abbrev WL:=@List.set_append_left
abbrev WM:=@Array.toList_setIfInBounds
abbrev WN:=@List.mem_of_mem_drop
abbrev WO:=@Array.toList_inj
abbrev WP:=@LawfulBEq.eq_of_beq
abbrev WQ:=@if_true
abbrev WR:=@List.length_pos_iff
abbrev WS:=@List.replicate_succ
abbrev WT:=@List.flatten_append
abbrev WU:=@Nat.not_lt_zero
abbrev WV:=@Int.tmod_lt_of_pos
abbrev WW:=@List.set_cons_zero
abbrev WX:=@List.getElem_range
abbrev WY:=@Nat.le_succ
abbrev WZ:=@List.all_eq_false
abbrev Xa:=@Go.World.drewN_drewN
abbrev Xb:=@Bool.and_assoc
abbrev Xc:=@List.take_take
abbrev Xd:=@Go.run_convert_bytes_back
abbrev Xe:=@List.reverse_cons
abbrev Xf:=@Nat.lt_trichotomy
abbrev Xg:=@Array.getElem?_setIfInBounds_ne
abbrev Xh:=@Classical.choose_spec
abbrev Xi:=@List.flatMap_nil
abbrev Xj:=@List.ext_getElem
abbrev Xk:=@Option.getD_some
abbrev Xl:=@List.find?_eq_some_iff_getElem
abbrev Xm:=@beq_self_eq_true
abbrev Xn:=@List.map_take
abbrev Xo:=@Nat.two_pos
abbrev Xp:=@Nat.add_mul
abbrev Xq:=@List.dropLast_subset
abbrev Xw:=@List.Pairwise.filter
abbrev Xx:=@Int.tmod_nonneg
abbrev Xy:=@List.filter_nil
abbrev Xz:=@List.find?_cons
abbrev XA:=@Int.toNat_of_nonneg
abbrev XB:=@List.mem_map_of_mem
abbrev XC:=@List.take_succ_cons
abbrev XD:=@Nat.succ_pos
abbrev XE:=@List.map_nil
abbrev XF:=@Nat.mod_two_eq_zero_or_one
abbrev XG:=@Go.World.grownBy.refl
abbrev XH:=@Go.Calls.quiet_of
abbrev XI:=@List.filter_filter
abbrev XJ:=@Bool.true_eq_false
abbrev XK:=@Option.toList_some
abbrev XL:=@Nat.mul_one
abbrev XM:=@List.filter_congr
abbrev XN:=@Bool.not_eq_true'
abbrev XO:=@of_decide_eq_true
abbrev XP:=@List.take_set
abbrev XQ:=@List.length_filterMap_le
abbrev XR:=@ByteArray.ext
abbrev XS:=@Bool.and_comm
abbrev XU:=@Bool.not_true
abbrev XV:=@Nat.add_sub_cancel_left
abbrev XW:=@List.getLast?_cons_cons
abbrev XX:=@List.filter_cons
abbrev XY:=@Nat.lt_or_ge
abbrev XZ:=@Nat.le_of_eq
abbrev X0:=@Bool.or_true
abbrev X3:=@Nat.zero_mul
abbrev X6:=@beq_false_of_ne
abbrev X9:=@List.any_append
abbrev Ya:=@Go.run_underlying
abbrev Yb:=@List.cons.inj
abbrev Fs:=List (ByteArray×ByteArray)
structure ae(S:Xv)(w w':World):Prop where
 os:w'.os=w.os
 tape:w'.tape=w.tape
 output:w'.output=w.output
 size:w.heap.size<=w'.heap.size
 block:∀k,k<w.heap.size->k∉S->w'.heap[k]?=w.heap[k]?
theorem ae.refl(S:Xv)(w:World):ae S w w:=⟨rfl,rfl,rfl,Ue _,fun _ _ _=>rfl⟩
theorem ae.trans{c:World}(h:ae x w T)(k:ae x T c):ae x w c :=
 ⟨k.os.trans h.os,k.tape.trans h.tape,k.output.trans h.output,Un h.size k.size,
  fun i a b=>(k.block i (Ul a h.size) b).trans (h.block i a b)⟩
theorem ae.mono{S':Xv}(h:ae x w T)(b:∀k,k∈x->k<w.heap.size->k∈S'):ae S' w T :=
 ⟨h.os,h.tape,h.output,h.size,fun k a d=>h.block k a (fun c=>d (b k c a))⟩
theorem ae.drew(h:ae x w T):ae x w T.drew:=⟨h.os,h.tape,h.output,h.size,h.block⟩
theorem ae.drewN(h:ae x w T)(n:Nat):ae x w (T.drewN n):=⟨h.os,h.tape,h.output,h.size,h.block⟩
theorem ae.alloc(h:ae x w T)(o:Obj):ae x w (T.alloc o) :=
 h.trans ⟨rfl,rfl,rfl,by simp,fun k a _=>Below.heap_alloc _ _ _ a⟩
theorem ae.setCell(h:ae x w T){p:Addr}(a:p.block∈x∨w.heap.size<=p.block)(u:Value):ae x w (T.setCell p u) :=
 ⟨h.os,h.tape,h.output,by have:=h.size;simp[World.setCell];omega,fun k c b=>by
  rw[Ut _ _ _ _ (by rintro rfl;exact a.elim b (fun a=>by omega))];exact h.block k c b⟩
theorem ae.below(h:ae [] w T):Below w.heap.size w T :=
 ⟨h.os,h.tape,h.output,h.size,fun k a=>h.block k a (by simp)⟩
theorem ah(h:w.heap[l]?=some (.cells g f))(i:Nat):w.cell? ⟨l,i,none⟩=g[i]?:=by
 unfold World.cell?;simp[h]
theorem am(h:w.heap[l]?=some (.cells g f))(i:Nat):w.frozen? ⟨l,i,none⟩=false:=by
 unfold World.frozen?;simp[h]
theorem ab(h:w.heap[l]?=some (.cells g f))(i:Nat)(u:Value) :
  (w.setCell ⟨l,i,none⟩ u).heap[l]?=some (.cells (g.setIfInBounds i u) f):=by
 simp[World.setCell,Array.getElem?_modify,h]
theorem aj(h:w.heap[l]?=some y6):l<w.heap.size:=by
 rcases XY l w.heap.size with a | a
 ·exact a
 ·rw[Array.getElem?_eq_none a]at h;simp at h
theorem N2{b:FuncId}(h:Calls m b g (w.drewN (l+f)) fun e a=>e=returned i/\a=w.drewN (l+f)) :
  Calls m b g (w.drewN (l+f)) fun e a=>e=returned i/\∃n,a=w.drewN (l+n) :=
 h.mono fun _ _ c=>⟨c.1,f,c.2⟩
theorem aE{b:Bool}(h:z6=b):Ending.returned (bool z6)=returned (bool b):=by rw[h]
theorem T0{k:IntKind}{b:Int}(h:y2=b):Ending.returned (int k y2)=returned (int k b):=by rw[h]
theorem JV(h:N.toList=a.toList):N=a:=by
 rw[US,US]at h;cases N;cases a
 simp only[Array.toList_inj]at h;rw[h]
theorem xx(h:w.heap[l]?=some (.cells #[i,D] f)):w.cell? ⟨l,0,none⟩=some i/\w.cell? ⟨l,1,none⟩=some D :=
 ⟨ah h _,ah h _⟩
theorem xy(h:w.heap[l]?=some (.cells #[i,D,M] f)):w.cell? ⟨l,0,none⟩=some i/\w.cell? ⟨l,1,none⟩=some D/\w.cell? ⟨l,2,none⟩=some M :=
 ⟨ah h _,ah h _,ah h _⟩
theorem C9(h:w.heap[l]?=some (.cells #[i,D,M,z4] f)):w.cell? ⟨l,0,none⟩=some i/\w.cell? ⟨l,1,none⟩=some D/\w.cell? ⟨l,2,none⟩=some M/\w.cell? ⟨l,3,none⟩=some z4 :=
 ⟨ah h _,ah h _,ah h _,ah h _⟩
theorem lr(h:w.heap[l]?=some (.cells #[i,D,M,z4,z7] f)):w.cell? ⟨l,0,none⟩=some i/\w.cell? ⟨l,1,none⟩=some D/\w.cell? ⟨l,2,none⟩=some M/\w.cell? ⟨l,3,none⟩=some z4/\w.cell? ⟨l,4,none⟩=some z7 :=
 ⟨ah h _,ah h _,ah h _,ah h _,ah h _⟩
theorem JX(h:w.heap[l]?=some (.cells #[i,D,M,z4,z7,y1] f)):w.cell? ⟨l,0,none⟩=some i/\w.cell? ⟨l,1,none⟩=some D/\w.cell? ⟨l,2,none⟩=some M/\w.cell? ⟨l,3,none⟩=some z4/\w.cell? ⟨l,4,none⟩=some z7/\w.cell? ⟨l,5,none⟩=some y1 :=
 ⟨ah h _,ah h _,ah h _,ah h _,ah h _,ah h _⟩
theorem zE{a b:Value}(h:w.heap[l]?=some (.cells #[i,D,M,z4,z7,y1,a,b] f)):w.cell? ⟨l,0,none⟩=some i/\w.cell? ⟨l,1,none⟩=some D/\w.cell? ⟨l,2,none⟩=some M/\w.cell? ⟨l,3,none⟩=some z4/\w.cell? ⟨l,4,none⟩=some z7/\w.cell? ⟨l,5,none⟩=some y1/\w.cell? ⟨l,6,none⟩=some a/\w.cell? ⟨l,7,none⟩=some b :=
 ⟨ah h _,ah h _,ah h _,ah h _,ah h _,ah h _,ah h _,ah h _⟩
theorem fE(h:w.alloc (.cells g l)=T):T.heap[w.heap.size]?=some (.cells g l):=by
 rw[<-h];exact Ui _ _
theorem fg(h:w.alloc (.cells g l)=T):ae [] w T:=by
 rw[<-h];exact(ae.refl [] _).alloc _
theorem bM:ae [] w w:=ae.refl [] w
theorem ae.sl1(h:ae (l :: x) w T)(v:Value):ae (l :: x) w (T.setCell ⟨l,f,none⟩ v):=h.setCell (Us (by simp)) v
theorem ae.sr1(h:ae x w T)(a:w.heap.size<=l)(v:Value):ae x w (T.setCell ⟨l,f,none⟩ v):=h.setCell (Uo a) v
theorem kn:(v<H/\(v:Int)<(H:Int))∨(¬v<H/\¬(v:Int)<(H:Int)):=by omega
theorem bm{α:Type}(e:α):∃x,Xr (e=x):=⟨_,rfl⟩
theorem cM{p:Prop}(h:p):Xr p:=h
def dr(n:Int):Bool:=n==32||n==9||n==10||n==12||n==13
def fX(n:Int):Bool:=decide (33<=n)&&decide (n<=126)
theorem kZ :
  Calls prog 227 #[int u8 y0] S fun e a=>e=returned (bool (dr y0))/\a=S:=by
 go_enter func227,ntmps227;go_wp2
 all_goals go_ret
 all_goals (refine⟨?_,rfl⟩;simp[dr, *])
theorem qs :
  Calls prog 230 #[int u8 y0] S fun e a=>e=returned (bool (fX y0))/\a=S:=by
 go_enter func230,ntmps230;go_wp2
 all_goals go_ret
 all_goals (refine⟨?_,rfl⟩;first | (simp[fX, *];done) | (simp[fX];omega))
def aH(d:Xs)(k:Nat):Int:=if h:k<d.size then((d[k]'h).toNat:Int) else 0
theorem bZ(h:H<b.size):aH b H=((b[H]'h).toNat:Int):=by unfold aH;rw[dif_pos h]
def aX(d:Xs):Nat->Int
 | 0=>1
 | k+1=>if aH d k==10 then aX d k+1 else aX d k
def bK(d:Xs):Nat->Int
 | 0=>1
 | k+1=>if aH d k==10 then 1 else bK d k+1
theorem BZ(k:Nat):1<=aX b k/\aX b k<=k+1:=by
 induction k with
 | zero=>simp[aX]
 | succ k a=>simp only[aX];split <;> omega
theorem Bx(k:Nat):1<=bK b k/\bK b k<=k+1:=by
 induction k with
 | zero=>simp[bK]
 | succ k a=>simp only[bK];split <;> omega
def nH(n d:Xs)(k:Nat):Array Value:=#[string n,string d,int i64 k,int i64 (aX d k),int i64 (bK d k)]
def cg(w:World)(b:Nat)(n d:Xs)(k:Nat):Prop:=w.heap[b]?=some (.cells (nH n d k) 300)
theorem cg.cells(h:cg w l N a f) :
  w.cell? ⟨l,0,none⟩=some (string N)/\w.cell? ⟨l,1,none⟩=some (string a)/\w.cell? ⟨l,2,none⟩=some (int i64 f) /\
  w.cell? ⟨l,3,none⟩=some (int i64 (aX a f))/\w.cell? ⟨l,4,none⟩=some (int i64 (bK a f)):=by
 refine⟨?_,?_,?_,?_,?_⟩ <;> (rw[ah h];rfl)
theorem cg.Yu(h:cg w l N a f)(c:ae x w T)(b:l∉x):cg T l N a f :=
 (c.block l (aj h) b).trans h
theorem ae.get(b:ae x w T)(h:w.heap[l]?=some y6)(a:l∉x):T.heap[l]?=some y6 :=
 (b.block l (aj h) a).trans h
theorem Cr(h:cg w l N a f)(e:f<a.size)(d:((a[f].toNat:Int)==10)=true)(m:Nat) :
  cg (((((w.drewN m).setCell ⟨l,3,none⟩ (int i64 (aX a f+1))).setCell ⟨l,4,none⟩ (int i64 0)).setCell ⟨l,4,none⟩ (int i64 1)).setCell ⟨l,2,none⟩ (int i64 ((f:Int)+1))) l N a (f+1):=by
 have b:(w.drewN m).heap[l]?=some (.cells (nH N a f) 300):=h;have c:=ab (ab (ab (ab b 3 (int i64 (aX a f+1))) 4 (int i64 0)) 4 (int i64 1)) 2 (int i64 ((f:Int)+1));unfold cg;rw[c];simp[nH,aX,bK,bZ a f e,d]
theorem wI(h:cg w l N a f)(e:f<a.size)(d:((a[f].toNat:Int)==10)=false)(m:Nat) :
  cg (((w.drewN m).setCell ⟨l,4,none⟩ (int i64 (bK a f+1))).setCell ⟨l,2,none⟩ (int i64 ((f:Int)+1))) l N a (f+1):=by
 have b:(w.drewN m).heap[l]?=some (.cells (nH N a f) 300):=h;have c:=ab (ab b 4 (int i64 (bK a f+1))) 2 (int i64 ((f:Int)+1));unfold cg;rw[c];simp[nH,aX,bK,bZ a f e,d]
theorem EI(q:b.size<=1024)(a:y<b.size)(h:cg S I n b y) :
  Calls prog 228 #[pointer (some ⟨I,0,none⟩)] S fun e c=>e=returned (tuple #[])/\cg c I n b (y+1)/\ae [I] S c:=by
 obtain⟨g,i,j,k,l⟩:=h.cells;have m:=am h 2;have o:=am h 3;have p:=am h 4;have f:=BZ b y;have d:=Bx b y;go_enter func228,ntmps228;go_wp2;go_quiet (fail);go_wp2;go_quiet (fail);go_wp2
 all_goals go_end0
 all_goals refine⟨rfl,?_,?_⟩
 ·exact Cr h a (by assumption) _
 ·exact((((((ae.refl _ _).drewN _).sl1 _).sl1 _).sl1 _).sl1 _)
 ·exact wI h a (by assumption) _
 ·exact((((ae.refl _ _).drewN _).sl1 _).sl1 _)
theorem Az(h:cg S I n b y) :
  Calls prog 229 #[pointer (some ⟨I,0,none⟩)] S fun e a=>e=returned (agg #[string n,int i64 (aX b y),int i64 (bK b y)])/\ae [] S a:=by
 obtain⟨c,d,f,g,i⟩:=h.cells;have j:=aj h;go_enter func229,ntmps229;go_wp2;go_region
 all_goals go_wp2
 exact Um (v:=agg #[string n,int i64 (aX b y),int i64 (bK b y)]) (by simp[results,results229,go_sem]) rfl ⟨rfl,((ae.refl _ _).alloc _).drew⟩
def rj(d:Xs):Nat->Nat->Nat
 | 0,k=>k
 | f+1,k=>if k<d.size/\dr (aH d k)=true then rj d f (k+1) else k
def skip(d:Xs)(k:Nat):Nat:=rj d (d.size-k) k
def ru(d:Xs):Nat->Nat->Nat
 | 0,k=>k
 | f+1,k=>if k<d.size/\dr (aH d k)=false/\fX (aH d k)=true then ru d f (k+1) else k
def dq(d:Xs)(k:Nat):Nat:=ru d (d.size-k) k
theorem Jl(h:H<b.size)(a:dr (aH b H)=true):skip b H=skip b (H+1):=by
 unfold skip;rw[show b.size-H=(b.size-(H+1))+1 by omega];rw[rj,Uf ⟨h,a⟩]
theorem uF(h:¬(H<b.size/\dr (aH b H)=true)):skip b H=H:=by
 unfold skip;cases b.size-H with
 | zero=>rfl
 | succ f=>rw[rj,Ud h]
theorem Ju(h:H<b.size)(a:dr (aH b H)=false)(c:fX (aH b H)=true):dq b H=dq b (H+1):=by
 unfold dq;rw[show b.size-H=(b.size-(H+1))+1 by omega];rw[ru,Uf ⟨h,a,c⟩]
theorem zr(h:¬(H<b.size/\dr (aH b H)=false/\fX (aH b H)=true)):dq b H=H:=by
 unfold dq;cases b.size-H with
 | zero=>rfl
 | succ f=>rw[ru,Ud h]
theorem AM(f k:Nat):k<=rj b f k/\(k<=b.size->rj b f k<=b.size):=by
 induction f generalizing k with
 | zero=>simp[rj]
 | succ f a =>
  rw[rj];split
  ·have:=a (k+1);omega
  ·omega
theorem Ba(f k:Nat):k<=ru b f k/\(k<=b.size->ru b f k<=b.size):=by
 induction f generalizing k with
 | zero=>simp[ru]
 | succ f a =>
  rw[ru];split
  ·have:=a (k+1);omega
  ·omega
theorem Cs(h:H<=b.size):H<=skip b H/\skip b H<=b.size:=⟨(AM b _ H).1,(AM b _ H).2 h⟩
theorem tw(h:H<=b.size):H<=dq b H/\dq b H<=b.size:=⟨(Ba b _ H).1,(Ba b _ H).2 h⟩
structure tE where
 text:Xs
 YE:Int
 YA:Bool
 pos:Nat
def fZ(n d:Xs)(i:tE):Value:=agg #[string i.text,int i64 i.YE,bool i.YA,string n,int i64 (aX d i.pos),int i64 (bK d i.pos)]
def bQ(d:Xs)(k:Nat):tE×Nat :=
 let a:=skip d k
 let z:=dq d a
 if z<d.size/\dr (aH d z)=false then(⟨⟨#[]⟩,1,false,z⟩,z)
 else if z<=a then(⟨⟨#[]⟩,0,true,a⟩,z)
 else(⟨d.extract a z,0,false,a⟩,z)
theorem EA(b:v=skip d y)(f:dq d H=dq d v)(g:H<d.size)(a:dr (aH d H)=false)(c:fX (aH d H)=false) :
  bQ d y=(⟨⟨#[]⟩,1,false,H⟩,H):=by
 have e:dq d (skip d y)=H:=by rw[<-b,<-f];exact zr d H (fun h=>by simp[c]at h)
 simp only[bQ,e];rw[Uf ⟨g,a⟩]
theorem EB(a:v=skip d y)(c:dq d H=dq d v)(b:¬(H<d.size/\dr (aH d H)=false))(f:H<=v) :
  bQ d y=(⟨⟨#[]⟩,0,true,v⟩,H):=by
 have e:dq d (skip d y)=H:=by rw[<-a,<-c];exact zr d H (fun h=>b ⟨h.1,h.2.1⟩)
 simp only[bQ,e];rw[Ud b,<-a,Uf f]
theorem AI(a:v=skip d y)(c:dq d H=dq d v)(b:¬(H<d.size/\dr (aH d H)=false))(f:v<H) :
  bQ d y=(⟨d.extract v H,0,false,v⟩,H):=by
 have e:dq d (skip d y)=H:=by rw[<-a,<-c];exact zr d H (fun h=>b ⟨h.1,h.2.1⟩)
 simp only[bQ,e];rw[Ud b,<-a,Ud (by omega)]
theorem L7 :
  (∃h:H<b.size,dr ((b[H]'h).toNat:Int)=false/\fX ((b[H]'h).toNat:Int)=true/\dq b (H+1)=dq b H) ∨
  (∃h:H<b.size,dr ((b[H]'h).toNat:Int)=false/\fX ((b[H]'h).toNat:Int)=false) ∨
  (∃h:H<b.size,dr ((b[H]'h).toNat:Int)=true)∨(¬H<b.size/\decide ((H:Int)<(b.size:Int))=false):=by
 by_cases h:H<b.size
 ·have e:=bZ b H h;cases a:dr (aH b H) with
  | true=>exact Uo (Uo (Us ⟨h,e ▸ a⟩))
  | false =>
   cases c:fX (aH b H) with
   | true=>exact Us ⟨h,e ▸ a,e ▸ c,(Ju b H h a c).symm⟩
   | false=>exact Uo (Us ⟨h,e ▸ a,e ▸ c⟩)
 ·exact Uo (Uo (Uo ⟨h,by simp;omega⟩))
def lA(n:Int):Bool:=decide (33<=n)&&decide (n<=126) && !(n==36)
def g7(s:Xs):Bool:=decide (1<=s.size)&&decide (s.size<=8)&&(List.range s.size).all (fun i=>lA (aH s i))
def du(n d:Xs):Int:=if g7 n=false then 2 else if 1024<d.size then 3 else 0
theorem nu(h:b.size<1∨8<b.size):g7 b=false:=by
  unfold g7;rcases h with h | h
  · simp[show ¬1<=b.size by omega]
  · simp[show ¬b.size<=8 by omega]
theorem FQ(h:H<b.size)(a:lA (aH b H)=false):g7 b=false:=by
  unfold g7;have:(List.range b.size).all (fun H=>lA (aH b H))=false:=by
    rw[WZ];exact⟨H,by simp[h],by simp[a]⟩
  simp[this]
theorem DK(a:1<=b.size)(c:b.size<=8)(h:∀i,i<b.size->lA (aH b i)=true):g7 b=true:=by
  unfold g7;have:(List.range b.size).all (fun i=>lA (aH b i))=true:=by
    rw[U5];intro i d;exact h i (by simpa using d)
  simp[this,a,c]
theorem yc(s:b.size<=1073741824) :
    Calls prog 78 #[string b] S fun e p=>e=returned (bool (g7 b))/\p=S:=by
  by_cases l:1<=b.size
  · by_cases m:b.size<=8
    · go_enter func78,ntmps78
      go_wp2
      go_loopg [3] b.size (fun g i wr=>∃k:Nat,k<=b.size/\g=b.size-k/\i=int i64 k/\Xr (∀i,i<k->lA (aH b i)=true)/\wr=S)
      · exact⟨0,by omega,by omega,rfl,fun i h=>by omega,rfl⟩
      obtain⟨k,r,q,rfl,a,rfl⟩:=hrel;by_cases d:k<b.size
      · have j:∀c:Bool,lA (b[k].toNat:Int)=c->lA (aH b k)=c:=fun c h=>by rw[bZ b k d];exact h
        have f:Xr (∀c:Bool,lA (b[k].toNat:Int)=c->lA (aH b k)=c):=j;clear j;go_wp2
        all_goals first
          | (go_ret;refine⟨aE ?_,rfl⟩;rw[FQ b k d (f.o false ?_)];first | (simp[lA];omega) | (simp[lA];simp at *;omega))
          | (go_roundg (b.size-(k+1))
             case measure=>omega
             case rel =>
               refine⟨k+1,by omega,rfl,by go_num,?_,rfl⟩;intro i n;by_cases e:i=k
               · subst e;exact f.o true (by simp[lA];simp at *;omega)
               · exact a.o i (by omega))
      · go_wp2
        go_ret;exact⟨aE (DK b l m (fun i n=>a.o i (by omega))).symm,rfl⟩
    · go_enter func78,ntmps78
      go_wp2
      all_goals go_ret
      all_goals exact⟨aE (nu b (Uo (by omega))).symm,rfl⟩
  · go_enter func78,ntmps78
    go_wp2
    all_goals go_ret
    all_goals exact⟨aE (nu b (Us (by omega))).symm,rfl⟩
theorem oZ(c:n.size<=1073741824)(i:b.size<=4294967296) :
    Calls prog 50 #[string n,string b] S fun e f=>e=returned (int i64 (du n b))/\f=S:=by
  cases a:g7 n
  · go_enter func50,ntmps50
    go_wp2_with fail;refine(yc n _ c).mono ?_;rintro e g ⟨rfl,rfl⟩;go_wp2;go_ret;exact⟨T0 (by simp[du,a]),rfl⟩
  · by_cases d:1024<b.size
    all_goals
      go_enter func50,ntmps50;go_wp2_with fail;refine(yc n _ c).mono ?_;rintro e g ⟨rfl,rfl⟩;go_wp2;go_ret;exact⟨T0 (by simp[du,a,d]),rfl⟩
def aF(fs:Fs)(i:Nat):Xs:=(fs.getD i (⟨#[]⟩,⟨#[]⟩)).1
def ak(fs:Fs)(i:Nat):Xs:=(fs.getD i (⟨#[]⟩,⟨#[]⟩)).2
def qd(fs:Fs):List Value :=
  [string (aF fs 0),string (ak fs 0),string (aF fs 1),string (ak fs 1),string (aF fs 2),string (ak fs 2),string (aF fs 3),string (ak fs 3),int i64 fs.length]
def bO(w:World)(v t:Nat)(fs:Fs)(more:List Value):Prop:=w.heap[v]?=some (.cells (qd fs++more).toArray t)/\fs.length<=4
theorem bO.name{a:Fs}(h:bO w l f a L)(i:Nat)(b:i<4) :
    w.cell? ⟨l,i*2,none⟩=some (string (aF a i))/\w.cell? ⟨l,i*2+1,none⟩=some (string (ak a i)):=by
  constructor <;> rw[ah h.1]
  all_goals
    match i,b with
    | 0,_=>rfl
    | 1,_=>rfl
    | 2,_=>rfl
    | 3,_=>rfl
theorem bO.count{a:Fs}(h:bO w l f a L) :
    w.cell? ⟨l,8,none⟩=some (int i64 a.length):=by
  rw[ah h.1];rfl
def dP(n:Xs):Fs->Nat->Int
  | [],_=>-1
  | f :: r,i=>if(f.1.toList==n.toList)=true then i else dP n r (i+1)
def bR(fs:Fs)(n:Xs):Int:=dP n fs 0
theorem IE{α:Type}(l:List α)(k:Nat)(h:k<l.length):l.drop k=l[k] :: l.drop (k+1):=UB h
theorem Ag(a:Fs)(k:Nat)(h:k<a.length):aF a k=a[k].1:=by
  unfold aF;rw[Uc,Ub h];rfl
theorem Du(a:Fs)(n:Xs)(k:Nat)(h:k<a.length)(c:bR a n=dP n (a.drop k) k)(b:((aF a k).toList==n.toList)=true):bR a n=k:=by
  rw[c,IE _ _ h,dP,<-Ag a k h,Uf b]
theorem Ai(a:Fs)(n:Xs)(k:Nat)(h:k<a.length)(c:bR a n=dP n (a.drop k) k)(b:((aF a k).toList==n.toList)=false):bR a n=dP n (a.drop (k+1)) (k+1):=by
  rw[c,IE _ _ h,dP,<-Ag a k h,Ud (by simp[b])]
theorem Aj(a:Fs)(n:Xs)(k:Nat)(h:¬k<a.length)(b:bR a n=dP n (a.drop k) k):bR a n=-1:=by
  rw[b,Vm (by omega),dP]
theorem mD(b:Fs)(f:List Value)(n:Xs)(w:World)(h:bO w v H b f) :
    Calls prog 51 #[pointer (some ⟨v,0,none⟩),string n] w fun e p=>e=returned (int i64 (bR b n))/\p=w:=by
  have l:=h.count;have m:=h.2;go_enter func51,ntmps51;go_wp2
  go_loopg [5] b.length (fun g i wr=>∃k:Nat,k<=b.length/\g=b.length-k/\i=int i64 k/\Xr (bR b n=dP n (b.drop k) k)/\wr=w)
  · exact⟨0,by omega,by omega,rfl,rfl,rfl⟩
  obtain⟨k,r,q,rfl,a,rfl⟩:=hrel;by_cases c:k<b.length
  · obtain⟨s,t⟩:=h.name k (by omega)
    cases j:((aF b k).toList==n.toList)
    · have d:Xr (bR b n=dP n (b.drop (k+1)) (k+1)):=Ai b n k c a.o j
      clear a;go_wp2;go_roundg (b.length-(k+1))
      · exact⟨k+1,by omega,rfl,by go_num,d,rfl⟩
      omega
    · have d:Xr (bR b n=k):=Du b n k c a.o j
      clear a;go_wp2;go_ret;exact⟨T0 d.o.symm,rfl⟩
  · have d:Xr (bR b n=-1):=Aj b n k c a.o
    clear a;go_wp2;go_ret;exact⟨T0 d.o.symm,rfl⟩
theorem bO.free{a:Fs}(h:bO w l f a L)(i:Nat):w.frozen? ⟨l,i,none⟩=false:=am h.1 i
theorem bO.Yu{a:Fs}(h:bO w l f a L)(b:ae x w T)(c:l∉x):bO T l f a L :=
 ⟨b.get h.1 c,h.2⟩
theorem bO.lt{a:Fs}(h:bO w l f a L):l<w.heap.size:=aj h.1
theorem M9(a:Fs)(b:List Value)(w:World)(h:bO w y v a b)(i:H<a.length) :
  Calls prog 155 #[pointer (some ⟨y,0,none⟩),int i64 H] w fun e g=>e=returned (agg #[string (aF a H),string (ak a H)])/\ae [] w g:=by
 have c:=h.count;have d:=h.2;have f:=h.lt;obtain⟨j,k⟩:=h.name H (by omega);go_enter func155,ntmps155;go_wp2;exact Um (v:=agg #[string (aF a H),string (ak a H)]) (by simp[results,results155,go_sem]) rfl ⟨rfl,(ae.refl _ _).alloc _⟩
theorem QP(f:Fs)(e:List Value)(n d:Xs)(h:f.length<4) :
  (((qd f++e).set (f.length*2) (string n)).set (f.length*2+1) (string d)).set 8 (int i64 ((f.length:Int)+1))=qd (f++[(n,d)])++e:=by
 match f,h with
 | [],_=>rfl
 | [a],_=>rfl
 | [a,b],_=>rfl
 | [a,b,c],_=>rfl
theorem QQ(g:Fs)(f:List Value)(n d:Xs)(k:Nat)(i:k<g.length)(h:g.length<=4) :
  ((qd g++f).set (k*2) (string n)).set (k*2+1) (string d)=qd (g.set k (n,d))++f:=by
 match g,h,k,i with
 | [a],_,0,_=>rfl
 | [a,b],_,0,_=>rfl
 | [a,b],_,1,_=>rfl
 | [a,b,c],_,0,_=>rfl
 | [a,b,c],_,1,_=>rfl
 | [a,b,c],_,2,_=>rfl
 | [a,b,c,e],_,0,_=>rfl
 | [a,b,c,e],_,1,_=>rfl
 | [a,b,c,e],_,2,_=>rfl
 | [a,b,c,e],_,3,_=>rfl
theorem bO.added{a:Fs}(h:bO w l f a L)(n d:Xs)(c:a.length<4) :
  bO (((w.setCell ⟨l,a.length*2,none⟩ (string n)).setCell ⟨l,a.length*2+1,none⟩ (string d)).setCell ⟨l,8,none⟩ (int i64 ((a.length:Int)+1))) l f (a++[(n,d)]) L:=by
 have b:=ab (ab (ab h.1 (a.length*2) (string n)) (a.length*2+1) (string d)) 8 (int i64 ((a.length:Int)+1));refine⟨?_,by simp;omega⟩;rw[b];simp only[List.setIfInBounds_toArray,QP a L n d c]
theorem bO.turned{a:Fs}(h:bO w l f a L)(n d:Xs)(k:Nat)(c:k<a.length) :
  bO ((w.setCell ⟨l,k*2,none⟩ (string n)).setCell ⟨l,k*2+1,none⟩ (string d)) l f (a.set k (n,d)) L:=by
 have b:=ab (ab h.1 (k*2) (string n)) (k*2+1) (string d);refine⟨?_,by simpa using h.2⟩;rw[b];simp only[List.setIfInBounds_toArray,QQ a L n d k c h.2]
theorem Iw(c:Fs)(a:List Value)(w:World)(h:bO w I y c a)(i:c.length<4) :
  Calls prog 52 #[pointer (some ⟨I,0,none⟩),agg #[string n,string b]] w fun e f=>e=returned (tuple #[])/\bO f I y (c++[(n,b)]) a/\ae [I] w f:=by
 have d:=h.count;have g:=h.free;have j:=h.lt;obtain⟨k,l⟩:=h.name c.length (by omega);go_enter func52,ntmps52;go_wp2;go_region
 all_goals go_wp2
 all_goals go_end0
 exact⟨rfl,(h.added n b i).Yu (bM.alloc _ |>.drew) (by simp),((((ae.refl _ _).sl1 _).sl1 _).sl1 _).alloc _ |>.drew⟩
def fM(fs:Fs)(n d:Xs):Int×Fs :=
 if du n d≠0 then(du n d,fs)
 else if 0<=bR fs n then(0,fs.set (bR fs n).toNat (n,d))
 else if 4<=fs.length then(1,fs) else(0,fs++[(n,d)])
theorem Ds(a:Fs)(i:Nat):dP b a i=-1∨((i:Int)<=dP b a i/\dP b a i<i+a.length):=by
 induction a generalizing i with
 | nil=>exact Us rfl
 | cons f r c =>
  rw[dP];split
  ·exact Uo ⟨by omega,by simp;omega⟩
  ·rcases c (i+1) with h | h
   ·exact Us h
   ·exact Uo ⟨by omega,by simp;omega⟩
theorem qI(a:Fs):bR a b=-1∨∃k:Nat,k<a.length/\bR a b=k:=by
 rcases Ds b a 0 with h | h
 ·exact Us h
 ·refine Uo ⟨(bR a b).toNat,?_,?_⟩ <;> (unfold bR;omega)
theorem Je(a:Fs)(c:List Value)(w:World)(h:bO w I y a c)(p:n.size<=1073741824)(m:b.size<=4294967296) :
  Calls prog 33 #[pointer (some ⟨I,0,none⟩),string n,string b] w fun e u=>e=returned (int i64 (fM a n b).1)/\bO u I y (fM a n b).2 c/\ae [I] w u:=by
 have r:=h.count;have B:=h.lt;have t:=h.2;by_cases d:du n b=0
 ·rcases qI n a with i | ⟨k,A,i⟩
  ·by_cases s:4<=a.length
   ·have g:Xr (fM a n b=(1,a)):=(by show fM a n b=_;simp[fM,d,i,s]);have l:Xr (du n b=0):=d;have f:Xr (bR a n=-1):=i;clear d i;go_enter func33,ntmps33;go_wp2_with fail;refine(oZ n b _ p m).mono ?_;rintro e j ⟨rfl,rfl⟩;rw[l.o];go_wp2_with fail;refine(mD I y a c n _ (by exact h.Yu (bM.alloc _) (by simp))).mono ?_;rintro e j ⟨rfl,rfl⟩;rw[f.o];go_wp2;go_ret;exact⟨T0 (by rw[g.o]),by rw[g.o];exact h.Yu (bM.alloc _) (by simp),(ae.refl _ _).alloc _⟩
   ·have g:Xr (fM a n b=(0,a++[(n,b)])):=(by show fM a n b=_;simp[fM,d,i,s]);have l:Xr (du n b=0):=d;have f:Xr (bR a n=-1):=i;clear d i;go_enter func33,ntmps33;go_wp2_with fail;refine(oZ n b _ p m).mono ?_;rintro e j ⟨rfl,rfl⟩;rw[l.o];go_wp2_with fail;refine(mD I y a c n _ (by exact h.Yu (bM.alloc _) (by simp))).mono ?_;rintro e j ⟨rfl,rfl⟩;rw[f.o];go_wp2_with fail;refine(Iw I y n b a c _ (by exact h.Yu (bM.alloc _) (by simp)) (by omega)).mono ?_;rintro e E ⟨rfl,v,q⟩;go_wp2;go_ret;exact⟨T0 (by rw[g.o]),by rw[g.o];exact v,((ae.refl _ _).alloc _).trans q⟩
  ·have g:Xr (fM a n b=(0,a.set k (n,b))):=(by show fM a n b=_;simp[fM,d,i]);have l:Xr (du n b=0):=d;have f:Xr (bR a n=k):=i;obtain⟨C,D⟩:=h.name k (by omega);have z:=h.free;clear d i;go_enter func33,ntmps33;go_wp2_with fail;refine(oZ n b _ p m).mono ?_;rintro e j ⟨rfl,rfl⟩;rw[l.o];go_wp2_with fail;refine(mD I y a c n _ (by exact h.Yu (bM.alloc _) (by simp))).mono ?_;rintro e j ⟨rfl,rfl⟩;rw[f.o];go_wp2_with fail;go_region
   all_goals go_wp2
   all_goals go_ret
   exact⟨T0 (by rw[g.o]),by rw[g.o];exact(h.turned n b k A).Yu (bM.alloc _ |>.drew) (by simp),(((ae.refl _ _).sl1 _).sl1 _).alloc _ |>.drew⟩
 ·have g:Xr (fM a n b=(du n b,a)):=by show fM a n b=_;simp[fM,d]
  have x:(du n b != 0)=true:=by simp[d]
  clear d;go_enter func33,ntmps33;go_wp2_with fail;refine(oZ n b _ p m).mono ?_;rintro e j ⟨rfl,rfl⟩;go_wp2;go_ret;exact⟨T0 (by rw[g.o]),by rw[g.o];exact h,ae.refl _ _⟩
structure Hd where
 ao:Xu
 cap:Nat
def Hd.Yv(h:Hd):Option Nat:=h.ao.map (·.block)
structure ew where
 e:TypeId
 size:Nat
 n:Nat
 xs:List Value
def aB(w:World)(h:Hd)(r:ew):Prop:=w.ownsRow 0 r.e r.size (slice h.ao r.n h.cap) r.n r.xs
theorem Ci(h:Hd)(n:Nat):(slice h.ao n h.cap).ownBlock=h.Yv:=by
 unfold Hd.Yv;cases h.ao <;> rfl
theorem aB.lt{h:Hd}{r:ew}(o:aB w h r){k:Nat}(a:h.Yv=some k):k<w.heap.size :=
 (World.ownsRow.lt (h:=o) k (by rw[Ci];exact a)).2
theorem aB.Ym{w':World}{h:Hd}{r:ew}(o:aB w h r)(n:∀k,h.Yv=some k->w'.heap[k]?=w.heap[k]?):aB w' h r:=by
 refine⟨o.1,?_⟩;rcases o.2 with m | ⟨g,b,c,a,j,l,d,e,f,i⟩
 ·exact Us m
 ·refine Uo ⟨g,b,c,a,j,?_,d,e,f,i⟩;rw[n g (by unfold Hd.Yv;injection a with a;rw[a];rfl)];exact l
theorem aB.Ys{h:Hd}{r:ew}(o:aB w h r) :
  (h=⟨none,0⟩/\r.n=0/\r.xs=[])∨∃g a,h.ao=some ⟨g,0,none⟩/\w.heap[g]?=some (.cells a r.e)/\r.n<=h.cap/\h.cap<=maxLen/\a.size=h.cap*r.size/\a.toList.take (r.n*r.size)=r.xs:=by
 rcases o.2 with ⟨b,f⟩ | ⟨g,j,a,b,s,q,k,l,m,p⟩
 ·left
  injection b with c i d
  refine⟨by cases h;simp_all,f,UI (by rw[o.1,f];simp)⟩
 ·right
  injection b with c i d
  subst d;exact⟨g,a,c,q,k,l,m,p⟩
theorem bS:(⟨v,0,none⟩:Addr).add H=⟨v,H,none⟩:=by
 simp only[Addr.add];split
 ·next h=>subst h;rfl
 ·simp
theorem aB.cell{h:Hd}{r:ew}(o:aB w h r)(a:h.ao=some ⟨l,0,none⟩)(j:Nat)(u:Value)(b:r.xs[j]?=some u):w.cell? ⟨l,j,none⟩=some u:=by
 have:=o.cells (g:=l) (by rw[Ci];unfold Hd.Yv;rw[a];rfl) j u b;rw[bS]at this;exact this
theorem aN{y:List Oper}(Q:s.guard=none)(H x:Operand)(t:TypeId)(C:s.op=Op.call { callee:=Callee.builtin Builtin.append,args:=#[H,x],argTypes:=#[t,t] })(i:TypeInfo)(z:Value)(f:Nat)(h:Hd)(r:ew)(K:m.underlying t=some (.slice r.e))(L:m.info? r.e=some i)(h3:i.zero=some z)(M:i.size=r.size)(h5:i.bytes=f)(h6:z.cells.size=r.size)(h7:0<r.size)(T:z5.eval H=slice h.ao r.n h.cap)(o:aB S h r)(E:Addr)(p c:Nat)(d:List Value)(U:z5.eval x=slice (some E) p c)(R:d.length=p*r.size)(P:∀j u,d[j]?=some u->S.cell? (E.add j)=some u)(B:∀u∈d,u.oneCell'=true)(hm:0<p)(b1:r.n+p<=maxLen)(I:(r.n+p)*f<=140737488355328)(N:∀g a w,aB w ⟨some ⟨g,0,none⟩,a⟩ ⟨r.e,r.size,r.n+p,r.xs++d⟩->S.grownBy w h.Yv->(h.Yv=some g∨S.heap.size<=g)->wpList m y3 y7 y (z5.put s.dst (slice (some ⟨g,0,none⟩) (r.n+p) a)) w) :
  wpList m y3 y7 (s :: y) z5 S:=by
 rcases o.Ys with ⟨v,A,J⟩ | ⟨g,F,v,A,J,e4,e5,e6⟩
 ·refine wpList_append_grows S Q H x t C r.e i z r.size f K L h3 M h5 h6 h7 none 0 0 [] (by rw[T,v,A]) (fun _=>⟨rfl,rfl⟩) (by simp) (by intro b O;cases O) E p c d U R P B (by omega) (by omega) (by rw[A]at I;exact I) ?_;intro v' w D l;rcases D.2 with ⟨_,q⟩ | ⟨g,a,F,V,W,X,Y,Z,q6,q7⟩
  ·omega
  ·have:=N g a w ⟨by have:=D.1;simpa [J,A] using this,Uo ⟨g,a,F,by simp,UF _,X,by simpa [A] using Y,Z,q6,by simpa [A,J] using q7⟩⟩ (by rw[v];exact l) (Uo W);rw[V];simpa [A] using this
 ·by_cases hf:r.n+p<=h.cap
  ·refine wpList_append_fits S Q H x t C 0 r.e i r.size K L M g r.n h.cap r.xs (by rw[T,v]) (by have:=o;unfold aB at this;rw[v]at this;exact this) E p c d U R P B hf ?_;intro w D l;exact N g h.cap w D (by unfold Hd.Yv;rw[v];exact l) (Us (by unfold Hd.Yv;rw[v];rfl))
  ·refine wpList_append_grows S Q H x t C r.e i z r.size f K L h3 M h5 h6 h7 (some ⟨g,0,none⟩) r.n h.cap r.xs (by rw[T,v]) (by intro hh;cases hh) o.1 (by intro b O j u hj;cases O;rw[bS];exact o.cell v j u hj) E p c d U R P B (by omega) b1 I ?_;intro v' w D l;rcases D.2 with ⟨_,q⟩ | ⟨g',a,G,V,W,X,Y,Z,q6,q7⟩
   ·omega
   ·have:=N g' a w ⟨D.1,Uo ⟨g',a,G,rfl,UF _,X,Y,Z,q6,q7⟩⟩ ⟨l.os,l.tape,l.output,l.size,fun k hk _=>l.block k hk (by simp)⟩ (Uo W);rw[V];exact this
theorem zM{P:Program}(p F G c:TypeId)(g f a:Nat)(h:Hd)(r:ew)(b:Array Value)(t:TypeId)(E:P.underlying p=some (.slice c))(q:(P.info? c).map (·.size)=some a)(C:r.size=a)(y:S.heap[g]?=some (.cells b t))(l:aB S h r)(D:b.size=r.n*a)(x:∀v∈r.xs,v.oneCell'=true) :
  (Builtin.copy_ #[p,F] G #[slice (some ⟨g,0,none⟩) r.n f,slice h.ao r.n h.cap]).run P S=.ok (goInt r.n) (S.setRow g r.xs.toArray):=by
 have B:r.xs.length=r.n*a:=by have:=l.1;rw[C]at this;exact this
 have d:=run_storeCells_at P g 0 t r.xs 0 b S y (by simp;omega) x;have s:(b.toList.take (0+0)++r.xs++b.toList.drop (0+0+r.xs.length))=r.xs:=by
  simp;omega
 rw[s]at d;have k:(Builtin.firstCells a r.n (slice h.ao r.n h.cap)).run P S=.ok r.xs.toArray S:=by
  rcases l.Ys with ⟨e,H,u⟩ | ⟨w,o,e,_⟩
  ·rw[e,u];exact run_firstCells_none S _ _ _ _
  ·rw[e];exact run_firstCells_some S a r.n ⟨w,0,none⟩ r.n h.cap r.xs B (fun j v A=>by rw[bS];exact l.cell e j v A)
 cases m:P.info? c with
 | none=>simp[m]at q
 | some i =>
  have z:i.size=a:=by simpa [m] using q
  simp[Builtin.copy_,run_underlying E,Builtin.lenOf,sizeOf,typeInfo,m,z,k,d]
theorem v8(h:ae x w T)(a:l∈x∨w.heap.size<=l)(c:Array Value):ae x w (T.setRow l c) :=
 ⟨h.os,h.tape,h.output,by have:=h.size;simp[World.setRow];omega,fun k d b=>by
  rw[setRow_other T l k c (by rintro rfl;exact a.elim b (fun a=>by omega))];exact h.block k d b⟩
theorem rC{P:Program}(d j k:TypeId)(g b:Nat)(h:Hd)(r:ew)(a:Array Value)(t:TypeId)(p:P.underlying d=some (.slice r.e))(o:(P.info? r.e).map (·.size)=some r.size)(i:S.heap[g]?=some (.cells a t))(m:aB S h r)(f:a.size=r.n*r.size)(l:∀v∈r.xs,v.oneCell'=true) :
  ∃c,(Builtin.copy_ #[d,j] k #[slice (some ⟨g,0,none⟩) r.n b,slice h.ao r.n h.cap]).run P S=.ok (goInt r.n) c/\c.heap[g]?=some (.cells r.xs.toArray t)/\ae [g] S c/\c.heap.size=S.heap.size :=
 ⟨_,zM (P:=P) S d j k r.e g b r.size h r a t p o rfl i m f l,setRow_heap S g _ _ t _ i,v8 (ae.refl _ _) (Us (by simp)) _,by simp[World.setRow]⟩
theorem aB.made{r:ew}(b:w.heap[l]?=some (.cells r.xs.toArray r.e))(a:r.xs.length=r.n*r.size)(c:r.n<=maxLen):aB w ⟨some ⟨l,0,none⟩,r.n⟩ r :=
 ⟨a,Uo ⟨l,r.n,r.xs.toArray,rfl,UF _,b,Ue _,c,by simpa using a,by simp[<-a]⟩⟩
theorem rh{P:Program}(t C:TypeId)(i:TypeInfo)(z:Value)(d:Nat)(h:Hd)(r:ew)(F:P.underlying t=some (.slice r.e))(G:P.info? r.e=some i)(U:i.zero=some z)(H:i.size=r.size)(V:i.bytes=d)(W:z.cells.size=r.size)(X:0<r.size)(o:aB S h r)(x:Addr)(m c:Nat)(b:List Value)(J:b.length=m*r.size)(I:∀j u,b[j]?=some u->S.cell? (x.add j)=some u)(B:∀u∈b,u.oneCell'=true)(hm:0<m)(Y:r.n+m<=maxLen)(D:(r.n+m)*d<=140737488355328) :
  ∃g a s,(Builtin.append_ #[t,t] C #[slice h.ao r.n h.cap,slice (some x) m c]).run P S=.ok (slice (some ⟨g,0,none⟩) (r.n+m) a) s /\
   aB s ⟨some ⟨g,0,none⟩,a⟩ ⟨r.e,r.size,r.n+m,r.xs++b⟩/\S.grownBy s h.Yv/\(h.Yv=some g∨S.heap.size<=g):=by
 rcases o.Ys with ⟨p,w,E⟩ | ⟨g,y,p,w,E,e4,e5,e6⟩
 ·obtain⟨v',s,l,v,f,_⟩:=run_append_own (P:=P) S S.heap.size t C r.e i z r.size d F G U H V W X (slice none 0 0) 0 [] (Uj S _ r.e r.size) x m c b J I B (by omega) (by rw[w]at D;exact D) (Ue _);rcases v.2 with ⟨_,q⟩ | ⟨g,a,y,K,L,M,N,O,Q,R⟩
  ·omega
  ·refine⟨g,a,s,?_,⟨by have:=v.1;simpa [E,w] using this,Uo ⟨g,a,y,by simp,UF _,M,by simpa [w] using N,O,Q,by simpa [w,E] using R⟩⟩,?_,Uo L⟩
   ·rw[p,w,l,K]
   ·rw[p];exact f
 ·by_cases Z:r.n+m<=h.cap
  ·obtain⟨s,l,v,f⟩:=run_append_fits (P:=P) S 0 t C r.e i r.size F G H g r.n h.cap r.xs (by have:=o;unfold aB at this;rw[p]at this;exact this) x m c b J I B Z;exact⟨g,h.cap,s,by rw[p,l],v,by unfold Hd.Yv;rw[p];exact f,Us (by unfold Hd.Yv;rw[p];rfl)⟩
  ·obtain⟨v',s,l,v,f⟩:=run_append_arg_grows (P:=P) S t C r.e i z r.size d F G U H V W X ⟨g,0,none⟩ r.n h.cap r.xs o.1 (by intro j u hj;rw[bS];exact o.cell p j u hj) x m c b J I (by omega) Y D;rcases v.2 with ⟨_,q⟩ | ⟨T,a,A,K,L,M,N,O,Q,R⟩
   ·omega
   ·exact⟨T,a,s,by rw[p,l,K],⟨v.1,Uo ⟨T,a,A,rfl,UF _,M,N,O,Q,R⟩⟩,⟨f.os,f.tape,f.output,f.size,fun k hk _=>f.block k hk (by simp)⟩,Uo L⟩
theorem cv{K:Act->World->Prop}{E:Prop}(N:s.guard=none)(y x:Operand)(t:TypeId)(v:s.op=Op.call { callee:=Callee.builtin Builtin.append,args:=#[y,x],argTypes:=#[t,t] })(i:TypeInfo)(z:Value)(b:Nat)(h:Hd)(r:ew)(C:m.underlying t=some (.slice r.e))(D:m.info? r.e=some i)(F:i.zero=some z)(G:i.size=r.size)(H:i.bytes=b)(I:z.cells.size=r.size)(J:0<r.size)(Q:z5.eval y=slice h.ao r.n h.cap)(k:aB w h r)(p:Addr)(f c:Nat)(a:List Value)(S:z5.eval x=slice (some p) f c)(P:a.length=f*r.size)(M:∀j u,a[j]?=some u->w.cell? (p.add j)=some u)(q:∀u∈a,u.oneCell'=true)(O:0<f)(A:r.n+f<=maxLen)(B:(r.n+f)*b<=140737488355328)(L:∀g d o,aB o ⟨some ⟨g,0,none⟩,d⟩ ⟨r.e,r.size,r.n+f,r.xs++a⟩->w.grownBy o h.Yv->(h.Yv=some g∨w.heap.size<=g)->K (z5.put s.dst (slice (some ⟨g,0,none⟩) (r.n+f) d)) o) :
  if Region.wanted s (yielded y3 z5.tmps)=true then Oper.wp m s z5 w K y7 else E:=by
 have R:Region.wanted s (yielded y3 z5.tmps)=true:=by simp[Region.wanted,N]
 rw[Uf R];obtain⟨g,d,o,l,T,U,V⟩:=rh (P:=m) w t s.type i z b h r C D F G H I J k p f c a P M q O A B;unfold Oper.wp;simp[execOp,v,resolve,invoke,builtin,Q,S,l,Result.andThen];exact L g d o T U V
theorem dV{P:Program}(t e:TypeId)(i:TypeInfo)(z:Value)(f:P.underlying t=some (.slice e))(d:P.info? e=some i)(g:i.zero=some z)(n a:Nat)(b:i.size=a)(c:i.bytes*n<=281474976710656)(j:n<=1073741824) :
  (Instr.makeSlice t (int i64 n) (int i64 n)).run P S=.ok (slice (some ⟨S.heap.size,0,none⟩) n n) (S.alloc (.cells (madeCells z.cells (n*a)) e)):=by
 have:=run_make (P:=P) S t e i z f d g i64 i64 n n (by omega) (WK _) (by have:=Int.ofNat_le.2 c;rw[Int.natCast_mul]at this;exact this) (by omega);simpa [b] using this
def jy(w:World)(x:Nat)(fs:Fs)(rep:Bool)(a b c:Value):Prop:=bO w x 80 fs [bool rep,a,b,c]
def Ql:Value:=slice none 0 0
def kJ(w:World)(x:Nat)(fs:Fs):Prop:=jy w x fs false Ql Ql Ql
def lW(w:World)(x:Nat)(fs:Fs):Prop:=∃rep a b c,jy w x fs rep a b c
theorem kJ.anyR{a:Fs}(h:kJ w l a):lW w l a:=⟨_,_,_,_,h⟩
theorem jy.anyR{a:Fs}(h:jy w l a z6 i D M):lW w l a:=⟨_,_,_,_,h⟩
theorem kJ.Yu{a:Fs}(h:kJ w l a)(k:ae x w T)(b:l∉x):kJ T l a:=bO.Yu h k b
theorem lW.Yu{d:Fs}(h:lW w l d)(k:ae x w T)(e:l∉x):lW T l d:=by
 obtain⟨r,a,b,c,h⟩:=h;exact⟨r,a,b,c,bO.Yu h k e⟩
theorem lW.lt{d:Fs}(h:lW w l d):l<w.heap.size:=by
 obtain⟨r,a,b,c,h⟩:=h;exact bO.lt h
theorem jy.cells{a:Fs}(h:jy w l a z6 i D M) :
  w.cell? ⟨l,9,none⟩=some (bool z6)/\w.cell? ⟨l,10,none⟩=some i/\w.cell? ⟨l,11,none⟩=some D/\w.cell? ⟨l,12,none⟩=some M:=by
 refine⟨?_,?_,?_,?_⟩ <;> (rw[ah h.1];rfl)
def EY(w:World)(x:Nat)(rep:Bool)(a b c:Value):World:=(((w.setCell ⟨x,9,none⟩ (bool rep)).setCell ⟨x,10,none⟩ a).setCell ⟨x,11,none⟩ b).setCell ⟨x,12,none⟩ c
theorem jy.turn{e:Fs}(h:jy w l e z6 i D M)(a:Bool)(b c d:Value):jy (EY w l a b c d) l e a b c d:=by
 refine⟨?_,h.2⟩;unfold EY;rw[ab (ab (ab (ab h.1 9 (bool a)) 10 b) 11 c) 12 d];rfl
theorem G6(h:ae x w T)(d:l∈x∨w.heap.size<=l)(e:Bool)(a b c:Value):ae x w (EY T l e a b c) :=
 (((h.setCell d _).setCell d _).setCell d _).setCell d _
theorem Qk:Calls prog 28 #[] S fun e a=>e=returned (pointer (some ⟨S.heap.size,0,none⟩))/\kJ a S.heap.size []/\ae [] S a:=by
 go_enter func28,ntmps28;go_wp2;go_ret;exact⟨rfl,⟨Ui _ _,by simp⟩,(ae.refl _ _).alloc _⟩
theorem xG(f:Fs)(w:World)(h:lW w H f) :
  Calls prog 34 #[pointer (some ⟨H,0,none⟩)] w fun e g=>e=returned (tuple #[])/\kJ g H f/\ae [H] w g:=by
 obtain⟨l,a,b,c,h⟩:=h;obtain⟨m,i,j,k⟩:=h.cells;have n:=bO.free h;have d:Xr _:=h.turn false (slice none 0 0) (slice none 0 0) (slice none 0 0);unfold EY at d;go_enter func34,ntmps34;go_wp2;go_end0;exact⟨rfl,d.o,G6 (ae.refl _ _) (Us (by simp)) _ _ _ _⟩
theorem OU(f:Fs)(w:World)(h:lW w y f)(x:n.size<=1073741824)(u:b.size<=4294967296) :
  Calls prog 15 #[pointer (some ⟨y,0,none⟩),string n,string b] w fun e p=>e=returned (int i64 (fM f n b).1)/\lW p y (fM f n b).2/\((fM f n b).1=0->kJ p y (fM f n b).2)/\ae [y] w p:=by
 obtain⟨i,a,j,c,h⟩:=h;have q:=Je y 80 n b f [bool i,a,j,c] w h x u;have d:Xr _:=q;clear q;generalize fM f n b=z at *;obtain⟨t,k⟩:=z;simp only at d ⊢;cases v:(t==0)
 ·go_enter func15,ntmps15;go_wp2_with fail;refine Ug d.o ?_;rintro e s ⟨rfl,l,g⟩;go_wp2;go_ret;exact⟨rfl,⟨i,a,j,c,l⟩,fun e=>by subst e;simp at v,g⟩
 ·go_enter func15,ntmps15;go_wp2_with fail;refine Ug d.o ?_;rintro e s ⟨rfl,l,g⟩;go_wp2_with fail;refine(xG y k s ⟨i,a,j,c,l⟩).mono ?_;rintro e A ⟨rfl,r,m⟩;go_wp2;go_ret;exact⟨rfl,r.anyR,fun _=>r,g.trans m⟩
def dn(f:Nat->Int):Nat->Int
 | 0=>0
 | n+1=>if(dn f n==0)=true then f n else dn f n
theorem nj{n:Nat}(a:dn zt l=0)(h:(zt l==0)=false)(c:l<n):dn zt n=zt l:=by
 induction n with
 | zero=>omega
 | succ n b =>
  rw[dn];by_cases e:l=n
  ·subst e;rw[a];rfl
  ·rw[b (by omega),Ud (by rw[h];simp)]
def Fe(fs:Fs)(i:Nat):Int:=if(du (aF fs i) (ak fs i)==0)=false then du (aF fs i) (ak fs i) else if 0<=bR (fs.take i) (aF fs i) then 4 else 0
def dR(fs:Fs):Int:=if 4<fs.length then 1 else dn (Fe fs) fs.length
def j8(fs0 fs:Fs):Fs:=if dR fs=0 then fs else fs0
theorem qO{fs0 a:Fs}(h:dR a=y2)(b:y2≠0):j8 fs0 a=fs0:=by unfold j8;rw[Ud (by rw[h];exact b)]
theorem As{fs0 a:Fs}(h:dR a=0):j8 fs0 a=a:=by unfold j8;rw[Uf h]
theorem Sa{n:Nat}(h:dn zt n=0):∀i,i<n->zt i=0:=by
 induction n with
 | zero=>intro i b;omega
 | succ n c =>
  rw[dn]at h;split at h
  ·next a =>
   intro i b;by_cases e:i=n
   ·rw[e];exact h
   ·exact c (WP a) i (by omega)
  ·next a=>rw[h]at a;exact absurd rfl a
theorem Qh{a:Fs}(h:dR a=0):a.length<=4/\∀j,j<a.length->(ak a j).size<=1024:=by
 unfold dR at h;split at h
 ·cases h
 ·refine⟨by omega,fun j c=>?_⟩;have b:=Sa h j c;unfold Fe at b;split at b
  ·next e=>rw[b]at e;cases e
  ·next e =>
   unfold du at e;split at e
   ·exact absurd rfl e
   ·split at e
    ·exact absurd rfl e
    ·omega
def my(fs:Fs):Prop:=∀j,(aF fs j).size<=1073741824/\(ak fs j).size<=1073741824
theorem BI:(prog.info? 68).map (fun i=>(i.zero,i.size,i.bytes))=some (some (agg #[string ⟨#[]⟩,string ⟨#[]⟩]),2,32):=by kernel_rfl
def Rd(f:Xs×Xs):List Value:=[string f.1,string f.2]
def rY(fs:Fs):List Value:=fs.flatMap Rd
def de(fs:Fs):ew:=⟨68,2,fs.length,rY fs⟩
theorem wQ(a:Fs):(rY a).length=a.length*2:=by
 induction a with
 | nil=>rfl
 | cons t L b=>rw[rY,U4,Uh,show L.flatMap Rd=rY L from rfl,b];simp[Rd];omega
theorem xN(b:Fs)(j:Nat)(h:j<b.length):(rY b)[j*2]?=some (string (aF b j))/\(rY b)[j*2+1]?=some (string (ak b j)):=by
 induction b generalizing j with
 | nil=>simp at h
 | cons a L f =>
  have e:rY (a :: L)=string a.1 :: string a.2 :: rY L:=rfl;cases j with
  | zero=>exact⟨rfl,rfl⟩
  | succ j =>
   obtain⟨c,d⟩:=f j (by simpa using h);rw[e,show(j+1)*2=j*2+1+1 by omega];exact⟨c,d⟩
theorem IM(b:Fs)(k:Nat)(n d:Xs)(h:k<b.length):((rY b).set (k*2) (string n)).set (k*2+1) (string d)=rY (b.set k (n,d)):=by
 induction b generalizing k with
 | nil=>simp at h
 | cons a L c =>
  have e:∀x:Xs×Xs,rY (x :: L)=string x.1 :: string x.2 :: rY L:=fun _=>rfl;cases k with
  | zero=>rfl
  | succ k =>
   rw[Wb,show(k+1)*2=k*2+1+1 by omega,e];show _=string a.1 :: string a.2 :: rY (L.set k (n,d));rw[<-c k (by simpa using h)];rfl
theorem yP(a:Fs)(t:Xs×Xs):(⟨(de a).e,(de a).size,(de a).n+1,(de a).xs++Rd t⟩:ew)=de (a++[t]):=by
 simp[de,rY]
theorem IL(a:Fs):∀u∈rY a,u.oneCell'=true:=by
 intro u b;obtain⟨x,-,h⟩:=Wi.1 b;unfold Rd at h;simp only[List.mem_cons,List.not_mem_nil,or_false]at h;rcases h with rfl | rfl <;> rfl
structure It where
 B:Xv
 P:World->Prop
 lt:∀w,P w->∀b,b∈B->b<w.heap.size
 ok:∀S w w',P w->ae S w w'->(∀b,b∈B->b∉S)->P w'
def fT(I:Nat×Nat->It)(k:Nat×Nat)(it:It):Nat×Nat->It:=fun q=>if q=k then it else I q
theorem bV(I:Nat×Nat->It)(k:Nat×Nat)(a:It):fT I k a k=a:=by unfold fT;rw[Uf rfl]
theorem au(I:Nat×Nat->It){k q:Nat×Nat}(a:It)(h:q≠k):fT I k a q=I q:=by unfold fT;rw[Ud h]
theorem bG(h:l≠y4):((l,f):Nat×Nat)≠(y4,y5):=fun e=>h (by cases e;rfl)
theorem vm(h:f≠y5):((l,f):Nat×Nat)≠(y4,y5):=fun e=>h (by cases e;rfl)
structure pH(w:World)(I:Nat×Nat->It):Prop where
 all:∀k,(I k).P w
 far:∀k k',k≠k'->∀b,b∈(I k).B->b∉(I k').B
theorem pH.Yh{I:Nat×Nat->It}(h:pH w I)(k:ae [] w T):pH T I :=
 ⟨fun q=>(I q).ok [] w T (h.all q) k (fun _ _ a=>by cases a),h.far⟩
theorem pH.put{I:Nat×Nat->It}(h:pH w I)(k:Nat×Nat)(d:It)(K:ae (I k).B w T)(m:d.P T)(l:∀b,b∈d.B->b∈(I k).B∨w.heap.size<=b):pH T (fT I k d):=by
 refine⟨fun q=>?_,fun q f i b a c=>?_⟩
 ·by_cases e:q=k
  ·subst e;rw[bV];exact m
  ·rw[au I d e];exact(I q).ok _ w T (h.all q) K (fun b a=>h.far q k e b a)
 ·by_cases e:q=k
  ·subst e;rw[bV]at a;rw[au I d (Ne.symm i)]at c;rcases l b a with g | g
   ·exact h.far q f i b g c
   ·have:=(I f).lt w (h.all f) b c;omega
  ·rw[au I d e]at a;by_cases j:f=k
   ·subst j;rw[bV]at c;rcases l b c with g | g
    ·exact h.far q f i b a g
    ·have:=(I q).lt w (h.all q) b a;omega
   ·rw[au I d j]at c;exact h.far q f i b a c
theorem pH.put2{I:Nat×Nat->It}(h:pH w I)(c d:Nat×Nat)(A:c≠d)(j k:It)(K:ae ((I c).B++(I d).B) w T)(D:j.P T)(E:k.P T)(y:∀b,b∈j.B->b∈(I c).B∨w.heap.size<=b)(z:∀b,b∈k.B->b∈(I d).B∨w.heap.size<=b)(u:∀b,b∈j.B->b∉k.B):pH T (fT (fT I c j) d k):=by
 have e:∀q,q≠c->q≠d->∀b,b∈(I q).B->b∉j.B/\b∉k.B:=fun q f a b m=>by
  have:=(I q).lt w (h.all q) b m;refine⟨fun x=>?_,fun x=>?_⟩
  ·rcases y b x with p | p
   ·exact h.far q c f b m p
   ·omega
  ·rcases z b x with p | p
   ·exact h.far q d a b m p
   ·omega
 have s:fT (fT I c j) d k c=j:=by rw[au _ _ A,bV]
 have t:fT (fT I c j) d k d=k:=bV _ _ _;have o:∀q,q≠c->q≠d->fT (fT I c j) d k q=I q:=fun q f a=>by rw[au _ _ a,au _ _ f]
 refine⟨fun q=>?_,fun q i r b f a=>?_⟩
 ·by_cases l:q=c
  ·subst l;rw[s];exact D
  ·by_cases g:q=d
   ·subst g;rw[t];exact E
   ·rw[o q l g];exact(I q).ok _ w T (h.all q) K (fun b m C=>(UG.1 C).elim (h.far q c l b m) (h.far q d g b m))
 ·by_cases l:q=c
  ·subst l;rw[s]at f;by_cases g:i=d
   ·subst g;rw[t]at a;exact u b f a
   ·rw[o i (Ne.symm r) g]at a;exact(e i (Ne.symm r) g b a).1 f
  ·by_cases g:q=d
   ·subst g;rw[t]at f;by_cases n:i=c
    ·subst n;rw[s]at a;exact u b a f
    ·rw[o i n (Ne.symm r)]at a;exact(e i n (Ne.symm r) b a).2 f
   ·rw[o q l g]at f;by_cases n:i=c
    ·subst n;rw[s]at a;exact(e q l g b f).1 a
    ·by_cases v:i=d
     ·subst v;rw[t]at a;exact(e q l g b f).2 a
     ·rw[o i n v]at a;exact h.far q i r b f a
structure Tk where
 s:Xs
 YE:Int
 YB:Xs
 YC:Int
 YD:Int
def CQ(t:Tk):List Value:=[string t.s,int i64 t.YE,string t.YB,int i64 t.YC,int i64 t.YD]
def SA(L:List Tk):List Value:=L.flatMap CQ
def jq(L:List Tk):ew:=⟨138,5,L.length,SA L⟩
theorem Sr(L:List Tk)(j:Nat)(t:Tk)(h:L[j]?=some t)(c:Nat)(d:c<5):(SA L)[j*5+c]?=(CQ t)[c]?:=by
 induction L generalizing j with
 | nil=>cases h
 | cons a L b =>
  have e:SA (a :: L)=CQ a++SA L:=rfl;cases j with
  | zero =>
   simp at h;subst h;rw[e,Uv (by simp[CQ];omega)];simp
  | succ j =>
   rw[e,Ur (by simp[CQ];omega),show(j+1)*5+c-(CQ a).length=j*5+c by simp[CQ];omega];exact b j (by simpa using h)
theorem AC(L:List Tk)(t:Tk):(⟨(jq L).e,(jq L).size,(jq L).n+1,(jq L).xs++CQ t⟩:ew)=jq (L++[t]):=by
 simp[jq,SA]
def dI(d:Xs):Nat->Nat
 | 0=>0
 | i+1=>if dr (aH d i)=true then i+1 else dI d i
def ng(nm d:Xs)(s:Xs)(r:Int)(k:Nat):Tk:=⟨s,r,nm,aX d k,bK d k⟩
def jV(nm d:Xs)(a z:Nat)(L:List Tk):List Tk:=if a=z then L else L++[ng nm d (d.extract a z) 0 a]
def jU(nm d:Xs):Nat->List Tk
 | 0=>[]
 | i+1=>if dr (aH d i)=true then jV nm d (dI d i) i (jU nm d i) else jU nm d i
def rW(n:Int):Bool:=!fX n && !dr n
def kz(d:Xs):Option Nat:=(List.range d.size).find? (fun i=>rW (aH d i))
def iZ(nm d:Xs):List Tk:=match kz d with
 | some i=>jU nm d i++[ng nm d ⟨#[]⟩ 1 i]
 | none=>jV nm d (dI d d.size) d.size (jU nm d d.size)++[ng nm d ⟨#[]⟩ 0 d.size]
theorem pF(i:Nat):dI b i<=i:=by
 induction i with
 | zero=>exact Ue _
 | succ i a=>rw[dI];split <;> omega
theorem vN(L:List Tk):(jV n b v H L).length<=L.length+1:=by
 unfold jV;split <;> simp
theorem zo(i:Nat):(jU n b i).length<=i:=by
 induction i with
 | zero=>exact Ue _
 | succ i a =>
  rw[jU];split
  ·have:=vN n b (dI b i) i (jU n b i);omega
  ·omega
theorem Bc:(iZ n b).length<=b.size+2:=by
 unfold iZ;split
 ·next i h =>
  have:=Up.1 (UV h);have:=zo n b i;simp;omega
 ·have:=vN n b (dI b b.size) b.size (jU n b b.size);have:=zo n b b.size;simp;omega
def tp(s u:Xs)(i:Nat):Bool:=((s.extract i (i+u.size)).toList==u.toList)
def io(s u:Xs):Bool:=(List.range (s.size+1)).any (fun i=>decide (i+u.size<=s.size)&&tp s u i)
def Fd(t:Xs)(l:List UInt8):Bool:=(t.toList==l)
def b7:Bool->List Tk->List Tk
 | _,[]=>[]
 | false,t :: r=>if Fd t.s [36,40]=true then b7 true r else t :: b7 false r
 | true,t :: r =>
  if(t.YE==0)=false then t :: b7 true r
  else if Fd t.s [36,41]=true then b7 false r
  else if Fd t.s []=true then⟨⟨#[]⟩,3,t.YB,t.YC,t.YD⟩ :: b7 true r
  else if(io t.s ⟨#[36,40]⟩||io t.s ⟨#[36,41]⟩)=true then [⟨⟨#[]⟩,2,t.YB,t.YC,t.YD⟩]
  else b7 true r
theorem MI(b:Bool)(L:List Tk):(b7 b L).length<=L.length:=by
 induction L generalizing b with
 | nil=>cases b <;> simp[b7]
 | cons t L a =>
  have c:=a true;have d:=a false;cases b
  ·rw[b7];split <;> simp <;> omega
  ·rw[b7]
   repeat' split
   all_goals (simp;try omega)
def lL(w:World)(ao:Xu)(fs:Fs):Prop:=∀k,k<fs.length->∃g o,ao=some ⟨g,o,none⟩/\g<w.heap.size/\w.cell? ⟨g,o+k*2,none⟩=some (string (aF fs k))/\w.cell? ⟨g,o+k*2+1,none⟩=some (string (ak fs k))
theorem lL.Yu{a:Xu}{c:Fs}(h:lL w a c)(k:ae x w T)(m:∀b,a=some b->b.block∉x):lL T a c:=by
 intro j n;obtain⟨g,o,e,d,f,l⟩:=h j n;have q:∀i,T.cell? ⟨g,i,none⟩=w.cell? ⟨g,i,none⟩:=fun i=>Uw (k.block g d (m _ e));exact⟨g,o,e,Ul d k.size,by rw[q];exact f,by rw[q];exact l⟩
theorem PI(a:Fs)(k:Nat)(h:k<a.length):a.take k++[(aF a k,ak a k)]=a.take (k+1):=by
 rw[WG,Ub h];unfold aF ak;rw[Uc,Ub h];rfl
def EV(w:World)(v:Nat)(fs:Fs):World:=((((((((w.setCell ⟨v,0,none⟩ (string (aF fs 0))).setCell ⟨v,1,none⟩ (string (ak fs 0))).setCell ⟨v,2,none⟩ (string (aF fs 1))).setCell ⟨v,3,none⟩ (string (ak fs 1))).setCell ⟨v,4,none⟩ (string (aF fs 2))).setCell ⟨v,5,none⟩ (string (ak fs 2))).setCell ⟨v,6,none⟩ (string (aF fs 3))).setCell ⟨v,7,none⟩ (string (ak fs 3))).setCell ⟨v,8,none⟩ (int i64 fs.length)
theorem OD(c a:Fs)(b:List Value):(((((((((qd c++b).set 0 (string (aF a 0))).set 1 (string (ak a 0))).set 2 (string (aF a 1))).set 3 (string (ak a 1))).set 4 (string (aF a 2))).set 5 (string (ak a 2))).set 6 (string (aF a 3))).set 7 (string (ak a 3))).set 8 (int i64 a.length)=qd a++b:=rfl
theorem bO.over{b a:Fs}(h:bO w l f b L)(c:a.length<=4):bO (EV w l a) l f a L:=by
 refine⟨?_,c⟩;unfold EV;rw[ab (ab (ab (ab (ab (ab (ab (ab (ab h.1 0 _) 1 _) 2 _) 3 _) 4 _) 5 _) 6 _) 7 _) 8 _];simp only[List.setIfInBounds_toArray,OD]
theorem G3(h:ae x w T)(a:l∈x∨w.heap.size<=l)(b:Fs):ae x w (EV T l b) :=
 ((((((((h.setCell a _).setCell a _).setCell a _).setCell a _).setCell a _).setCell a _).setCell a _).setCell a _).setCell a _
theorem bO.nine{a:Fs}(h:bO w l f a L) :
  w.cell? ⟨l,0,none⟩=some (string (aF a 0))/\w.cell? ⟨l,1,none⟩=some (string (ak a 0))/\w.cell? ⟨l,2,none⟩=some (string (aF a 1))/\w.cell? ⟨l,3,none⟩=some (string (ak a 1))/\w.cell? ⟨l,4,none⟩=some (string (aF a 2))/\w.cell? ⟨l,5,none⟩=some (string (ak a 2))/\w.cell? ⟨l,6,none⟩=some (string (aF a 3))/\w.cell? ⟨l,7,none⟩=some (string (ak a 3))/\w.cell? ⟨l,8,none⟩=some (int i64 a.length):=by
 refine⟨?_,?_,?_,?_,?_,?_,?_,?_,?_⟩ <;> (rw[ah h.1];rfl)
set_option maxRecDepth 100000
theorem Ks(b a:Fs)(c:List Value)(X:Xu)(Y:Nat)(w:World)(h:bO w v H b c)(hS:lL w X a)(I:my a) :
  Calls prog 49 #[pointer (some ⟨v,0,none⟩),slice X a.length Y] w fun e j=>e=returned (int i64 (dR a))/\bO j v H (j8 b a) c/\ae [v] w j:=by
 have J:Xr (bO w v H b c):=h;by_cases h4:4<a.length
 ·have A:Xr (dR a=1):=by show _=_;unfold dR;rw[Uf h4]
  have P:Xr _:=(qO (fs0:=b) A.o (by decide));rw[A.o];have ac:(4:Int)<a.length:=by omega
  clear h;go_enter func49,ntmps49;go_wp2;go_ret;exact⟨rfl,by rw[P.o];exact J.o,ae.refl _ _⟩
 ·have A:Xr (dR a=dn (Fe a) a.length):=by show _=_;unfold dR;rw[Ud h4]
  obtain⟨r,K⟩:=bm (dR a);rw[K.o]at A ⊢;have ac:¬(4:Int)<a.length:=by omega
  have HS:Xr (lL w X a):=hS;have D:Xr _:=I;obtain⟨W,R⟩:=bm (w.alloc (.cells #[string ⟨#[]⟩,string ⟨#[]⟩,string ⟨#[]⟩,string ⟨#[]⟩,string ⟨#[]⟩,string ⟨#[]⟩,string ⟨#[]⟩,string ⟨#[]⟩,int i64 0] 73));have O:Xr _:=fg R.o;have Q:Xr (bO W w.heap.size 73 (a.take 0) []):=by show bO _ _ _ _ _;rw[<-R.o];exact⟨Ui _ _,by simp⟩
  clear h hS I;go_enter func49,ntmps49;go_upto_region 4 with fail
  rw[R.o];go_wp2
  go_loopg [6] a.length (fun g iv wr=>∃k:Nat,k<=a.length/\g=a.length-k/\iv=int i64 k/\Xr (dn (Fe a) k=0)/\Xr (bO wr w.heap.size 73 (a.take k) [])/\Xr (ae [] w wr))
  ·exact⟨0,by omega,rfl,rfl,rfl,Q,O⟩
  obtain⟨k,hk,hg,rfl,T,y,t⟩:=hrel;rcases kn k a.length with ⟨m,an⟩ | ⟨m,-⟩
  ·obtain⟨F,o0,rfl,s,c0,c1⟩:=(lL.Yu HS.o t.o (by simp)) k m;have HC:Xr (∀j,ae [] wr j->j.cell? ⟨F,o0+k*2,none⟩=some (string (aF a k))/\j.cell? ⟨F,o0+k*2+1,none⟩=some (string (ak a k))/\F<j.heap.size):=fun j kw=>⟨by rw[Uw (kw.block F s (by simp))];exact c0,by rw[Uw (kw.block F s (by simp))];exact c1,Ul s kw.size⟩
   have B:Xr (∀d,Calls prog 50 #[string (aF a k),string (ak a k)] d fun e j=>e=returned (int i64 (du (aF a k) (ak a k)))/\j=d):=fun d=>oZ _ _ d (D.o k).1 (by have:=(D.o k).2;omega);have u:Xr (∀d,bO d w.heap.size 73 (a.take k) []->Calls prog 51 #[pointer (some ⟨w.heap.size,0,none⟩),string (aF a k)] d fun e j=>e=returned (int i64 (bR (a.take k) (aF a k)))/\j=d):=fun d hx=>mD _ _ _ _ _ d hx;have hl:(a.take k).length=k:=(by rw[U6];omega);have M:Xr (∀d,bO d w.heap.size 73 (a.take k) []->Calls prog 52 #[pointer (some ⟨w.heap.size,0,none⟩),agg #[string (aF a k),string (ak a k)]] d fun e j=>e=returned (tuple #[])/\bO j w.heap.size 73 (a.take (k+1)) []/\ae [w.heap.size] d j):=fun d hx=>by
    rw[<-PI a k m];exact Iw _ _ _ _ _ _ d hx (by rw[hl];omega)
   have l:Xr (Fe a k=if(du (aF a k) (ak a k)==0)=false then du (aF a k) (ak a k) else if 0<=bR (a.take k) (aF a k) then 4 else 0):=rfl;have C:Xr ((Fe a k==0)=false->r=Fe a k):=fun q=>by rw[A.o];exact nj T.o q m
   have N:Xr (Fe a k=0->dn (Fe a) (k+1)=0):=fun q=>by rw[dn,T.o];exact q
   clear hl;generalize aF a k=nm at *;generalize ak a k=dt at *;obtain⟨Z,U⟩:=bm (du nm dt);rw[U.o]at B l;obtain⟨fi,V⟩:=bm (bR (a.take k) nm);rw[V.o]at u l;(go_upto_region 7 with fail);go_region_with (go_at_call 50;refine(B.o _).mono ?_;rintro e L ⟨rfl,ai⟩)
   all_goals
    subst ai;obtain⟨L,H9⟩:=bm (wr.drew);rw[H9.o];have f:Xr (ae [] wr L):=by show ae _ _ _;rw[<-H9.o];exact(ae.refl [] wr).drew
    clear c0 c1 s;cases i:(Z==0)
    ·rw[i,Uf rfl]at l;have p:Xr _:=(C.o (by rw[l.o];exact i));rw[l.o]at p;have ad:(Z != 0)=true:=(by unfold bne;rw[i];rfl);go_wp2;go_ret;exact⟨T0 p.o.symm,by rw[qO (K.o.trans p.o) (fun q=>by rw[q]at i;cases i)];exact bO.Yu J.o (t.o.trans f.o) (by simp),(t.o.trans f.o).mono (by simp)⟩
    ·rw[i,Ud (by simp)]at l;have ad:(Z != 0)=false:=(by unfold bne;rw[i];rfl);obtain⟨d0,d1,d2⟩:=HC.o L f.o;have x:Xr (bO L w.heap.size 73 (a.take k) []):=bO.Yu y.o f.o (by simp);by_cases G:0<=fi
     ·rw[Uf G]at l;have p:Xr _:=(C.o (by rw[l.o];rfl));rw[l.o]at p;go_wp2_with (go_at_call 51;refine(u.o _ x.o).mono ?_;rintro e w8 ⟨rfl,n⟩;rw[n];clear n);go_ret;exact⟨T0 p.o.symm,by rw[qO (K.o.trans p.o) (by decide)];exact bO.Yu J.o (t.o.trans f.o) (by simp),(t.o.trans f.o).mono (by simp)⟩
     ·rw[Ud G]at l;have HM:Xr _:=N.o l.o;(go_upto_region 12 with (go_at_call 51;refine(u.o _ x.o).mono ?_;rintro e w8 ⟨rfl,n⟩;rw[n];clear n));go_wp2_with (go_at_call 52;refine(M.o _ x.o).mono ?_;rintro e w8 ⟨rfl,ag,af⟩);go_roundg (a.length-(k+1))
      ·exact⟨k+1,by omega,rfl,by go_num,HM,ag,((t.o.trans f.o).mono (S':=[w.heap.size]) (by simp)).trans af |>.mono (fun q hq m=>by simp at hq;omega)⟩
      omega
  ·have e:k=a.length:=(by omega);subst e;have p:Xr (r=0):=cM (by rw[A.o];exact T.o);have ap:¬(a.length:Int)<a.length:=by omega
   rw[Vk]at y;obtain⟨q0,q1,q2,q3,q4,q5,q6,q7,q8⟩:=bO.nine y.o;have z:Xr (bO wr v H b c):=bO.Yu J.o t.o (by simp);obtain⟨p0,p1,p2,p3,p4,p5,p6,p7,p8⟩:=bO.nine z.o;have al:=bO.free z.o;have E:Xr (bO (EV wr v a) v H a c):=bO.over z.o (by omega);unfold EV at E;have S:Xr _:=As (fs0:=b) (K.o.trans p.o);go_wp2;go_ret;exact⟨T0 p.o.symm,by rw[S.o];exact E.o,G3 (t.o.mono (by simp)) (Us (by simp)) _⟩
def Tz(w':World)(x:Nat)(fs0 fs:Fs)(rep:Bool)(a b c:Value):Prop:=(dR fs=0->kJ w' x (j8 fs0 fs))/\(dR fs≠0->jy w' x (j8 fs0 fs) rep a b c)
set_option maxRecDepth 512
theorem LW(d g:Fs)(f:Bool)(a b c:Value)(l:Xu)(k:Nat)(w:World)(h:jy w H d f a b c)(x:lL w l g)(r:my g) :
  Calls prog 31 #[pointer (some ⟨H,0,none⟩),slice l g.length k] w fun e s=>e=returned (int i64 (dR g))/\Tz s H d g f a b c/\ae [H] w s:=by
 unfold Tz;have j:Xr _:=Ks H 80 d g [bool f,a,b,c] l k w h x r;generalize dR g=u at *;generalize j8 d g=m at *;cases p:(u==0)
 ·go_enter func31,ntmps31;go_wp2_with (go_at_call 49;refine Ug j.o ?_;rintro e t ⟨rfl,n,i⟩);go_ret;exact⟨rfl,⟨(fun e=>by rw[e]at p;cases p),fun _=>n⟩,i⟩
 ·go_enter func31,ntmps31;go_upto_region 3 with (go_at_call 49;refine Ug j.o ?_;rintro e t ⟨rfl,n,i⟩)
  go_wp2_with (go_at_call 34;refine(xG H m t ⟨f,a,b,c,n⟩).mono ?_;rintro e y ⟨rfl,v,q⟩);go_ret;exact⟨rfl,⟨fun _=>v,fun e=>absurd (WP p) e⟩,i.trans q⟩
theorem QW(f:Fs)(d:Bool)(a i c:Value)(w:World)(h:jy w y f d a i c)(s:n.size<=1073741824)(r:b.size<=4294967296)(k:(fM f n b).1≠0) :
  Calls prog 15 #[pointer (some ⟨y,0,none⟩),string n,string b] w fun e l=>e=returned (int i64 (fM f n b).1)/\jy l y (fM f n b).2 d a i c/\ae [y] w l:=by
 have g:Xr _:=Je y 80 n b f [bool d,a,i,c] w h s r;generalize fM f n b=t at *;obtain⟨m,p⟩:=t;simp only at g k ⊢;have u:(m==0)=false:=Uz.2 k;clear k;go_enter func15,ntmps15;go_wp2_with (go_at_call 33;refine Ug g.o ?_;rintro e v ⟨rfl,q,j⟩);go_ret;exact⟨rfl,q,j⟩
theorem E2(f:Fs)(n:Xs)(d:Bool)(a b c:Value)(w:World)(h:jy w H f d a b c)(A:bR f n<0) :
  Calls prog 37 #[pointer (some ⟨H,0,none⟩),string n] w fun e k=>e=returned (tuple #[agg #[int i64 0,string ⟨#[]⟩,int i64 0,int i64 0],int i64 5])/\jy k H f d a b c/\ae [H] w k:=by
 obtain⟨W,p⟩:=bm (w.alloc (.cells #[int i64 0,string ⟨#[]⟩,int i64 0,int i64 0] 87));have m:Xr _:=fg p.o;have q:=fE p.o;have r:jy W H f d a b c:=bO.Yu h m.o (by simp);obtain⟨z,i⟩:=bm (bR f n);rw[i.o]at A;have l:Xr (Calls prog 51 #[pointer (some ⟨H,0,none⟩),string n] W fun e k=>e=returned (int i64 z)/\k=W):=by
  show Calls _ _ _ _ _;rw[<-i.o];exact mD H _ f _ n W r
 obtain⟨B,C,D,E⟩:=C9 q;have G:=am q;have g:Xr (∀s t u x,ae [] w ((((W.setCell ⟨w.heap.size,0,none⟩ s).setCell ⟨w.heap.size,1,none⟩ t).setCell ⟨w.heap.size,2,none⟩ u).setCell ⟨w.heap.size,3,none⟩ x)):=fun s t u x=>(((m.o.sr1 (Ue _) _).sr1 (Ue _) _).sr1 (Ue _) _).sr1 (Ue _) _;have y:Xr (jy w H f d a b c):=h;clear h r q m;go_enter func37,ntmps37;go_upto_region 1 with fail
 rw[p.o];go_wp2_with (go_at_call 51;refine Ug l.o ?_;rintro e F ⟨rfl,j⟩;rw[j];clear j);exact Um (v:=tuple #[agg #[int i64 0,string ⟨#[]⟩,int i64 0,int i64 0],int i64 5]) (by simp[results,results37,go_sem,B,C,D,E]) rfl ⟨rfl,bO.Yu y.o (g.o _ _ _ _) (by simp),(g.o _ _ _ _).mono (by simp)⟩
end Go.Proofs.YtnbhnocdhbcbcaaGreat
