import Derived.Test.YtnbhnocdhbcbcaaGreatChecked
import Derived.WalkKit
import Derived.WalkSpells
import Derived.WalkLawsBesides
import Derived.Deep.QuietTactic
import Derived.BigQuiet
import Derived.Deep.LoopGhost
import Derived.Laws.CopyRow
import Derived.Laws.MakeOwn
import Derived.Deep.RegionLaw
import Derived.Deep.RegionHeld3
import Derived.Deep.CutRange
namespace Go.Proofs.YtnbhnocdhbcbcaaGreat
open Go.RowKit Tryz
open Value IntKind Ending
set_option maxHeartbeats 0
abbrev Xs:=ByteArray
abbrev Xt:=List ByteArray
abbrev Xu:=Option Addr
abbrev Xv:=List Nat
variable{y:Xv}{w T:World}{l n y4 y5:Nat}{g:Array Value}{y6:Obj}{m:Program}{i D M z4 z7 y1:Value}{z6:Bool}{y2:Int}{N a:Xs}{L:List Value}{y3:Array Oper}{s:Oper}{z5:Act}{y7:Exit->Act->World->Prop}{zt:Nat->Int}(d:Xs)(I x:Nat)(f b:Xs)(y0:Int)(S:World)(v H:Nat)
def Xr(p:Prop):Prop:=p
theorem Xr.o{p:Prop}(h:Xr p):p:=h
abbrev TF:=@List.getElem?_eq_getElem
abbrev TG:=@List.getD_eq_getElem?_getD
abbrev TH:=@if_neg
abbrev TI:=@Nat.le_refl
abbrev TJ:=@if_pos
abbrev TM:=@Go.Calls.mono
abbrev TN:=@Go.heap_alloc_new
abbrev TO:=@List.length_append
abbrev TP:=@Nat.lt_of_lt_of_le
abbrev TQ:=@Go.World.ownsRow_nil
abbrev TR:=@Go.bodyPost_ret
abbrev TT:=@List.getElem?_eq_some_iff
abbrev TU:=@Or.inr
abbrev TV:=@Nat.le_trans
abbrev TY:=@List.mem_range
abbrev TZ:=@Or.inl
abbrev T0:=@List.mem_singleton
abbrev Ua:=@List.getElem?_append_right
abbrev Ub:=@Go.RowKit.Below.heap_setCell
abbrev Uc:=@Bool.and_eq_true
abbrev Ud:=@Go.World.cell?_of_block
abbrev Ue:=@List.getElem_mem
abbrev Uf:=@List.getElem?_append_left
abbrev Ug:=@Nat.one_pos
abbrev Uh:=@List.length_map
abbrev Ui:=@beq_eq_false_iff_ne
abbrev Uj:=@List.drop_eq_getElem_cons
abbrev Uk:=@List.append_nil
abbrev Ul:=@Go.info_parts
abbrev Um:=@Go.Calls.quiet_of_same
abbrev Un:=@List.mem_cons
abbrev Uo:=@List.getElem?_map
abbrev Up:=@Nat.zero_le
abbrev Uq:=@List.mem_cons_of_mem
abbrev Ur:=@List.mem_cons_self
abbrev Us:=@List.eq_nil_of_length_eq_zero
abbrev Ut:=@List.mem_append
abbrev Uu:=@List.map_append
abbrev Uv:=@Bool.false_eq_true
abbrev Uw:=@List.length_cons
abbrev Ux:=@List.mem_filter
abbrev Uy:=@Bool.or_eq_true
abbrev Uz:=@List.length_set
abbrev UA:=@List.getElem?_eq_none
abbrev UB:=@Go.ByteArray.toList_eq
abbrev UC:=@List.mem_of_find?_eq_some
abbrev UD:=@List.take_succ_eq_append_getElem
abbrev UE:=@List.length_nil
abbrev UF:=@Int.toNat_natCast
abbrev UG:=@List.any_eq_true
abbrev UH:=@List.setIfInBounds_toArray
abbrev UI:=@List.flatMap_cons
abbrev UJ:=@List.all_eq_true
abbrev UK:=@List.length_drop
abbrev UL:=@List.getElem_of_mem
abbrev UM:=@Nat.sub_self
abbrev UN:=@List.getElem?_set
abbrev UO:=@Nat.le_of_lt
abbrev UP:=@List.drop_append_of_le_length
abbrev UQ:=@List.mem_append_left
abbrev UR:=@List.not_mem_nil
abbrev US:=@List.find?_eq_none
abbrev UT:=@List.mem_map
abbrev UU:=@decide_eq_true_eq
abbrev UV:=@List.filter_append
abbrev UW:=@List.length_take
abbrev UX:=@Bool.or_eq_false_iff
abbrev UY:=@Bool.eq_iff_iff
abbrev UZ:=@Nat.add_sub_cancel
abbrev U0:=@Bool.false_or
abbrev U3:=@List.take_length
abbrev U4:=@List.getElem?_replicate
abbrev U5:=@Option.some.inj
abbrev U6:=@decide_eq_true
abbrev U7:=@List.drop_of_length_le
abbrev U8:=@List.find?_range_eq_some
abbrev U9:=@List.range_succ
abbrev Vb:=@List.mem_append_right
abbrev Vc:=@List.take_append_of_le_length
abbrev Vd:=@Go.IntKind.wrap_i64
abbrev Ve:=@decide_eq_false
abbrev Vf:=@if_false
abbrev Vg:=@List.mem_of_getElem?
abbrev Vh:=@List.length_filter_le
abbrev Vi:=@List.flatMap_append
abbrev Vj:=@List.append_assoc
abbrev Vk:=@Bool.true_and
abbrev Vl:=@Go.size_madeCells
abbrev Vm:=@List.length_range
abbrev Vn:=@List.filter_cons_of_neg
abbrev Vo:=@beq_iff_eq
abbrev Vp:=@List.takeWhile_cons_of_pos
abbrev Vq:=@List.find?_some
abbrev Vr:=@Bool.or_false
abbrev Vs:=@Nat.add_zero
abbrev Vt:=@List.take_of_length_le
abbrev Vu:=@List.getElem?_range
abbrev Vv:=@List.set_cons_succ
abbrev Vw:=@List.getElem?_cons_succ
abbrev Vx:=@List.length_dropLast
abbrev Vy:=@List.mem_of_mem_take
abbrev Vz:=@List.filter_cons_of_pos
abbrev VB:=@List.map_cons
abbrev VC:=@or_false
abbrev VD:=@Bool.true_or
abbrev VG:=@List.foldl_append
abbrev VH:=@List.ext_getElem?
abbrev VI:=@Nat.zero_add
abbrev VJ:=@Bool.false_and
abbrev VK:=@List.takeWhile_cons_of_neg
abbrev VL:=@List.getLast?_eq_getElem?
abbrev VM:=@List.set_append_right
abbrev VN:=@List.filterMap_append
abbrev VO:=@List.cons_append
abbrev VP:=@List.getElem?_drop
abbrev VQ:=@Go.wp_loop_rounds
abbrev VR:=@List.getLast?_eq_some_getLast
abbrev VS:=@List.getLast?_concat
abbrev VT:=@List.getElem?_cons_zero
abbrev VU:=@List.map_congr_left
abbrev VW:=@List.map_set
abbrev VX:=@List.drop_eq_nil_of_le
abbrev VY:=@List.mem_flatMap
abbrev VZ:=@Nat.mul_le_mul
abbrev V3:=@List.mem_filterMap
abbrev V4:=@List.contains_iff_mem
abbrev V5:=@List.pairwise_iff_getElem
abbrev V6:=@List.any_cons
abbrev V7:=@List.flatMap_def
abbrev V8:=@List.take_zero
abbrev V9:=@List.length_eq_zero_iff
abbrev Wa:=@Go.rounds_succ
abbrev Wb:=@List.set_cons_zero
abbrev Wc:=@if_true
abbrev Wd:=@List.getElem?_take
abbrev We:=@ByteArray.size_extract
abbrev Wf:=@List.filter_eq_nil_iff
abbrev Wg:=@List.pairwise_lt_range
abbrev Wh:=@List.nil_append
abbrev Wi:=@List.dropLast_concat_getLast
abbrev Wj:=@Nat.add_assoc
abbrev Wk:=@Bool.or_assoc
abbrev Wl:=@List.length_singleton
abbrev Wm:=@List.any_eq_false
abbrev Wn:=@List.getElem_drop
abbrev Wo:=@Int.le_refl
abbrev Wp:=@List.set_append_left
abbrev Wq:=@Array.toList_setIfInBounds
abbrev Wr:=@List.drop_zero
abbrev Ws:=@List.mem_of_mem_drop
abbrev Wt:=@Array.toList_inj
abbrev Wu:=@LawfulBEq.eq_of_beq
abbrev Wv:=@List.length_pos_iff
abbrev Ww:=@List.mem_map_of_mem
abbrev Wx:=@List.replicate_succ
abbrev Wy:=@List.length_filterMap_le
abbrev Wz:=@Bool.not_true
abbrev WA:=@Nat.not_lt_zero
abbrev WB:=@Int.tmod_lt_of_pos
abbrev WC:=@List.getElem_range
abbrev WD:=@Nat.le_succ
abbrev WE:=@List.all_eq_false
abbrev WF:=@List.take_add_one
abbrev WG:=@Go.World.drewN_drewN
abbrev WH:=@Bool.and_assoc
abbrev WJ:=@Go.run_convert_bytes_back
abbrev WK:=@Bool.or_true
abbrev WL:=@Nat.lt_trichotomy
abbrev WM:=@Array.getElem?_setIfInBounds_ne
abbrev WN:=@List.length_replicate
abbrev WO:=@Classical.choose_spec
abbrev WP:=@List.flatMap_nil
abbrev WQ:=@List.ext_getElem
abbrev WR:=@List.drop_length
abbrev WS:=@List.find?_eq_some_iff_getElem
abbrev WT:=@beq_self_eq_true
abbrev WU:=@List.map_take
abbrev WV:=@Nat.add_mul
abbrev WW:=@List.dropLast_subset
abbrev WX:=@List.Pairwise.filter
abbrev WY:=@Int.tmod_nonneg
abbrev WZ:=@List.filter_nil
abbrev Xa:=@List.foldl_cons
abbrev Xb:=@List.find?_cons
abbrev Xc:=@Int.toNat_of_nonneg
abbrev Xd:=@List.take_succ_cons
abbrev Xe:=@List.filterMap_cons
abbrev Xf:=@Nat.succ_pos
abbrev Xg:=@List.map_nil
abbrev Xh:=@Nat.mod_two_eq_zero_or_one
abbrev Xi:=@List.take_take
abbrev Xj:=@Go.World.grownBy.refl
abbrev Xk:=@Go.Calls.quiet_of
abbrev Xl:=@List.filter_filter
abbrev Xm:=@Bool.true_eq_false
abbrev Xn:=@Option.toList_some
abbrev Xo:=@Nat.two_pos
abbrev Xp:=@List.filter_congr
abbrev Xq:=@Bool.not_eq_true'
abbrev Xw:=@of_decide_eq_true
abbrev Xx:=@List.reverse_cons
abbrev Xy:=@List.take_set
abbrev Xz:=@ByteArray.ext
abbrev XA:=@Bool.and_comm
abbrev XB:=@Option.getD_some
abbrev XC:=@List.getLast?_cons_cons
abbrev XD:=@List.filter_cons
abbrev XE:=@Nat.lt_or_ge
abbrev XF:=@Nat.zero_mul
abbrev XG:=@beq_false_of_ne
abbrev XH:=@List.any_append
abbrev XI:=@Go.run_underlying
abbrev XJ:=@Nat.mul_one
abbrev XK:=@Bool.not_false
abbrev XL:=@List.cons.inj
abbrev Fs:=List (ByteArray×ByteArray)
structure ae(S:Xv)(w w':World):Prop where
 os:w'.os=w.os
 tape:w'.tape=w.tape
 output:w'.output=w.output
 size:w.heap.size<=w'.heap.size
 block:∀k,k<w.heap.size->k∉S->w'.heap[k]?=w.heap[k]?
theorem ae.refl(S:Xv)(w:World):ae S w w:=⟨rfl,rfl,rfl,TI _,fun _ _ _=>rfl⟩
theorem ae.trans{c:World}(h:ae y w T)(k:ae y T c):ae y w c :=
 ⟨k.os.trans h.os,k.tape.trans h.tape,k.output.trans h.output,TV h.size k.size,
  fun i a b=>(k.block i (TP a h.size) b).trans (h.block i a b)⟩
theorem ae.mono{S':Xv}(h:ae y w T)(b:∀k,k∈y->k<w.heap.size->k∈S'):ae S' w T :=
 ⟨h.os,h.tape,h.output,h.size,fun k a d=>h.block k a (fun c=>d (b k c a))⟩
theorem ae.drew(h:ae y w T):ae y w T.drew:=⟨h.os,h.tape,h.output,h.size,h.block⟩
theorem ae.drewN(h:ae y w T)(n:Nat):ae y w (T.drewN n):=⟨h.os,h.tape,h.output,h.size,h.block⟩
theorem ae.alloc(h:ae y w T)(o:Obj):ae y w (T.alloc o) :=
 h.trans ⟨rfl,rfl,rfl,by simp,fun k a _=>Below.heap_alloc _ _ _ a⟩
theorem ae.setCell(h:ae y w T){p:Addr}(a:p.block∈y∨w.heap.size<=p.block)(u:Value):ae y w (T.setCell p u) :=
 ⟨h.os,h.tape,h.output,by have:=h.size;simp[World.setCell];omega,fun k c b=>by
  rw[Ub _ _ _ _ (by rintro rfl;exact a.elim b (fun a=>by omega))];exact h.block k c b⟩
theorem ae.below(h:ae [] w T):Below w.heap.size w T :=
 ⟨h.os,h.tape,h.output,h.size,fun k a=>h.block k a (by simp)⟩
theorem ah(h:w.heap[l]?=some (.cells g n))(i:Nat):w.cell? ⟨l,i,none⟩=g[i]?:=by
 unfold World.cell?;simp[h]
theorem am(h:w.heap[l]?=some (.cells g n))(i:Nat):w.frozen? ⟨l,i,none⟩=false:=by
 unfold World.frozen?;simp[h]
theorem ab(h:w.heap[l]?=some (.cells g n))(i:Nat)(u:Value) :
  (w.setCell ⟨l,i,none⟩ u).heap[l]?=some (.cells (g.setIfInBounds i u) n):=by
 simp[World.setCell,Array.getElem?_modify,h]
theorem aj(h:w.heap[l]?=some y6):l<w.heap.size:=by
 rcases XE l w.heap.size with a | a
 ·exact a
 ·rw[Array.getElem?_eq_none a]at h;simp at h
theorem NL{f:FuncId}(h:Calls m f g (w.drewN (l+n)) fun e a=>e=returned i/\a=w.drewN (l+n)) :
  Calls m f g (w.drewN (l+n)) fun e a=>e=returned i/\∃c,a=w.drewN (l+c) :=
 h.mono fun _ _ b=>⟨b.1,n,b.2⟩
theorem aF{b:Bool}(h:z6=b):Ending.returned (bool z6)=returned (bool b):=by rw[h]
theorem au{k:IntKind}{b:Int}(h:y2=b):Ending.returned (int k y2)=returned (int k b):=by rw[h]
theorem JD(h:N.toList=a.toList):N=a:=by
 rw[UB,UB]at h;cases N;cases a
 simp only[Array.toList_inj]at h;rw[h]
theorem Ba(h:w.heap[l]?=some (.cells #[i,D] n)):w.cell? ⟨l,0,none⟩=some i/\w.cell? ⟨l,1,none⟩=some D :=
 ⟨ah h _,ah h _⟩
theorem wm(h:w.heap[l]?=some (.cells #[i,D,M] n)):w.cell? ⟨l,0,none⟩=some i/\w.cell? ⟨l,1,none⟩=some D/\w.cell? ⟨l,2,none⟩=some M :=
 ⟨ah h _,ah h _,ah h _⟩
theorem CP(h:w.heap[l]?=some (.cells #[i,D,M,z4] n)):w.cell? ⟨l,0,none⟩=some i/\w.cell? ⟨l,1,none⟩=some D/\w.cell? ⟨l,2,none⟩=some M/\w.cell? ⟨l,3,none⟩=some z4 :=
 ⟨ah h _,ah h _,ah h _,ah h _⟩
theorem od(h:w.heap[l]?=some (.cells #[i,D,M,z4,z7] n)):w.cell? ⟨l,0,none⟩=some i/\w.cell? ⟨l,1,none⟩=some D/\w.cell? ⟨l,2,none⟩=some M/\w.cell? ⟨l,3,none⟩=some z4/\w.cell? ⟨l,4,none⟩=some z7 :=
 ⟨ah h _,ah h _,ah h _,ah h _,ah h _⟩
theorem JF(h:w.heap[l]?=some (.cells #[i,D,M,z4,z7,y1] n)):w.cell? ⟨l,0,none⟩=some i/\w.cell? ⟨l,1,none⟩=some D/\w.cell? ⟨l,2,none⟩=some M/\w.cell? ⟨l,3,none⟩=some z4/\w.cell? ⟨l,4,none⟩=some z7/\w.cell? ⟨l,5,none⟩=some y1 :=
 ⟨ah h _,ah h _,ah h _,ah h _,ah h _,ah h _⟩
theorem wn{a b:Value}(h:w.heap[l]?=some (.cells #[i,D,M,z4,z7,y1,a,b] n)):w.cell? ⟨l,0,none⟩=some i/\w.cell? ⟨l,1,none⟩=some D/\w.cell? ⟨l,2,none⟩=some M/\w.cell? ⟨l,3,none⟩=some z4/\w.cell? ⟨l,4,none⟩=some z7/\w.cell? ⟨l,5,none⟩=some y1/\w.cell? ⟨l,6,none⟩=some a/\w.cell? ⟨l,7,none⟩=some b :=
 ⟨ah h _,ah h _,ah h _,ah h _,ah h _,ah h _,ah h _,ah h _⟩
theorem f9(h:w.alloc (.cells g l)=T):T.heap[w.heap.size]?=some (.cells g l):=by
 rw[<-h];exact TN _ _
theorem fH(h:w.alloc (.cells g l)=T):ae [] w T:=by
 rw[<-h];exact(ae.refl [] _).alloc _
theorem kn:(v<H/\(v:Int)<(H:Int))∨(¬v<H/\¬(v:Int)<(H:Int)):=by omega
theorem bq{α:Type}(e:α):∃x,Xr (e=x):=⟨_,rfl⟩
theorem cg{p:Prop}(h:p):Xr p:=h
def dm(n:Int):Bool:=n==32||n==9||n==10||n==12||n==13
def fV(n:Int):Bool:=decide (33<=n)&&decide (n<=126)
theorem kU :
  Calls prog 227 #[int u8 y0] S fun e a=>e=returned (bool (dm y0))/\a=S:=by
 go_enter func227,ntmps227;go_wp2
 all_goals go_ret
 all_goals (refine⟨?_,rfl⟩;simp[dm, *])
theorem qe :
  Calls prog 230 #[int u8 y0] S fun e a=>e=returned (bool (fV y0))/\a=S:=by
 go_enter func230,ntmps230;go_wp2
 all_goals go_ret
 all_goals (refine⟨?_,rfl⟩;first | (simp[fV, *];done) | (simp[fV];omega))
def aI(d:Xs)(k:Nat):Int:=if h:k<d.size then((d[k]'h).toNat:Int) else 0
theorem bY(h:H<b.size):aI b H=((b[H]'h).toNat:Int):=by unfold aI;rw[dif_pos h]
def aU(d:Xs):Nat->Int
 | 0=>1
 | k+1=>if aI d k==10 then aU d k+1 else aU d k
def bJ(d:Xs):Nat->Int
 | 0=>1
 | k+1=>if aI d k==10 then 1 else bJ d k+1
theorem By(k:Nat):1<=aU b k/\aU b k<=k+1:=by
 induction k with
 | zero=>simp[aU]
 | succ k a=>simp only[aU];split <;> omega
theorem Be(k:Nat):1<=bJ b k/\bJ b k<=k+1:=by
 induction k with
 | zero=>simp[bJ]
 | succ k a=>simp only[bJ];split <;> omega
def nC(n d:Xs)(k:Nat):Array Value:=#[string n,string d,int i64 k,int i64 (aU d k),int i64 (bJ d k)]
def ce(w:World)(b:Nat)(n d:Xs)(k:Nat):Prop:=w.heap[b]?=some (.cells (nC n d k) 300)
theorem ce.cells(h:ce w l N a n) :
  w.cell? ⟨l,0,none⟩=some (string N)/\w.cell? ⟨l,1,none⟩=some (string a)/\w.cell? ⟨l,2,none⟩=some (int i64 n) /\
  w.cell? ⟨l,3,none⟩=some (int i64 (aU a n))/\w.cell? ⟨l,4,none⟩=some (int i64 (bJ a n)):=by
 refine⟨?_,?_,?_,?_,?_⟩ <;> (rw[ah h];rfl)
theorem ce.Yb(h:ce w l N a n)(c:ae y w T)(b:l∉y):ce T l N a n :=
 (c.block l (aj h) b).trans h
theorem ae.get(b:ae y w T)(h:w.heap[l]?=some y6)(a:l∉y):T.heap[l]?=some y6 :=
 (b.block l (aj h) a).trans h
theorem BZ(h:ce w l N a n)(e:n<a.size)(d:((a[n].toNat:Int)==10)=true)(m:Nat) :
  ce (((((w.drewN m).setCell ⟨l,3,none⟩ (int i64 (aU a n+1))).setCell ⟨l,4,none⟩ (int i64 0)).setCell ⟨l,4,none⟩ (int i64 1)).setCell ⟨l,2,none⟩ (int i64 ((n:Int)+1))) l N a (n+1):=by
 have b:(w.drewN m).heap[l]?=some (.cells (nC N a n) 300):=h;have c:=ab (ab (ab (ab b 3 (int i64 (aU a n+1))) 4 (int i64 0)) 4 (int i64 1)) 2 (int i64 ((n:Int)+1));unfold ce;rw[c];simp[nC,aU,bJ,bY a n e,d]
theorem wA(h:ce w l N a n)(e:n<a.size)(d:((a[n].toNat:Int)==10)=false)(m:Nat) :
  ce (((w.drewN m).setCell ⟨l,4,none⟩ (int i64 (bJ a n+1))).setCell ⟨l,2,none⟩ (int i64 ((n:Int)+1))) l N a (n+1):=by
 have b:(w.drewN m).heap[l]?=some (.cells (nC N a n) 300):=h;have c:=ab (ab b 4 (int i64 (bJ a n+1))) 2 (int i64 ((n:Int)+1));unfold ce;rw[c];simp[nC,aU,bJ,bY a n e,d]
theorem Ep(q:b.size<=1024)(a:x<b.size)(h:ce S I f b x) :
  Calls prog 228 #[pointer (some ⟨I,0,none⟩)] S fun e c=>e=returned (tuple #[])/\ce c I f b (x+1)/\ae [I] S c:=by
 obtain⟨i,j,k,l,m⟩:=h.cells;have n:=am h 2;have o:=am h 3;have p:=am h 4;have g:=By b x;have d:=Be b x;go_enter func228,ntmps228;go_wp2;go_quiet (fail);go_wp2;go_quiet (fail);go_wp2
 all_goals go_end0
 all_goals refine⟨rfl,?_,?_⟩
 ·exact BZ h a (by assumption) _
 ·exact((((((ae.refl _ _).drewN _).sl1 _).sl1 _).sl1 _).sl1 _)
 ·exact wA h a (by assumption) _
 ·exact((((ae.refl _ _).drewN _).sl1 _).sl1 _)
theorem Ah(h:ce S I f b x) :
  Calls prog 229 #[pointer (some ⟨I,0,none⟩)] S fun e a=>e=returned (agg #[string f,int i64 (aU b x),int i64 (bJ b x)])/\ae [] S a:=by
 obtain⟨c,d,g,i,j⟩:=h.cells;have k:=aj h;go_enter func229,ntmps229;go_wp2;go_region
 all_goals go_wp2
 exact TR (v:=agg #[string f,int i64 (aU b x),int i64 (bJ b x)]) (by simp[results,results229,go_sem]) rfl ⟨rfl,((ae.refl _ _).alloc _).drew⟩
def rd(d:Xs):Nat->Nat->Nat
 | 0,k=>k
 | f+1,k=>if k<d.size/\dm (aI d k)=true then rd d f (k+1) else k
def skip(d:Xs)(k:Nat):Nat:=rd d (d.size-k) k
def rj(d:Xs):Nat->Nat->Nat
 | 0,k=>k
 | f+1,k=>if k<d.size/\dm (aI d k)=false/\fV (aI d k)=true then rj d f (k+1) else k
def de(d:Xs)(k:Nat):Nat:=rj d (d.size-k) k
theorem IX(h:H<b.size)(a:dm (aI b H)=true):skip b H=skip b (H+1):=by
 unfold skip;rw[show b.size-H=(b.size-(H+1))+1 by omega];rw[rd,TJ ⟨h,a⟩]
theorem uC(h:¬(H<b.size/\dm (aI b H)=true)):skip b H=H:=by
 unfold skip;cases b.size-H with
 | zero=>rfl
 | succ f=>rw[rd,TH h]
theorem Jf(h:H<b.size)(a:dm (aI b H)=false)(c:fV (aI b H)=true):de b H=de b (H+1):=by
 unfold de;rw[show b.size-H=(b.size-(H+1))+1 by omega];rw[rj,TJ ⟨h,a,c⟩]
theorem yZ(h:¬(H<b.size/\dm (aI b H)=false/\fV (aI b H)=true)):de b H=H:=by
 unfold de;cases b.size-H with
 | zero=>rfl
 | succ f=>rw[rj,TH h]
theorem As(f k:Nat):k<=rd b f k/\(k<=b.size->rd b f k<=b.size):=by
 induction f generalizing k with
 | zero=>simp[rd]
 | succ f a =>
  rw[rd];split
  ·have:=a (k+1);omega
  ·omega
theorem AH(f k:Nat):k<=rj b f k/\(k<=b.size->rj b f k<=b.size):=by
 induction f generalizing k with
 | zero=>simp[rj]
 | succ f a =>
  rw[rj];split
  ·have:=a (k+1);omega
  ·omega
theorem Ca(h:H<=b.size):H<=skip b H/\skip b H<=b.size:=⟨(As b _ H).1,(As b _ H).2 h⟩
theorem tw(h:H<=b.size):H<=de b H/\de b H<=b.size:=⟨(AH b _ H).1,(AH b _ H).2 h⟩
structure tC where
 text:Xs
 Yl:Int
 Yh:Bool
 pos:Nat
def fM(n d:Xs)(i:tC):Value:=agg #[string i.text,int i64 i.Yl,bool i.Yh,string n,int i64 (aU d i.pos),int i64 (bJ d i.pos)]
def bR(d:Xs)(k:Nat):tC×Nat :=
 let a:=skip d k
 let z:=de d a
 if z<d.size/\dm (aI d z)=false then(⟨⟨#[]⟩,1,false,z⟩,z)
 else if z<=a then(⟨⟨#[]⟩,0,true,a⟩,z)
 else(⟨d.extract a z,0,false,a⟩,z)
theorem Eh(b:v=skip d x)(f:de d H=de d v)(g:H<d.size)(a:dm (aI d H)=false)(c:fV (aI d H)=false) :
  bR d x=(⟨⟨#[]⟩,1,false,H⟩,H):=by
 have e:de d (skip d x)=H:=by rw[<-b,<-f];exact yZ d H (fun h=>by simp[c]at h)
 simp only[bR,e];rw[TJ ⟨g,a⟩]
theorem Ei(a:v=skip d x)(c:de d H=de d v)(b:¬(H<d.size/\dm (aI d H)=false))(f:H<=v) :
  bR d x=(⟨⟨#[]⟩,0,true,v⟩,H):=by
 have e:de d (skip d x)=H:=by rw[<-a,<-c];exact yZ d H (fun h=>b ⟨h.1,h.2.1⟩)
 simp only[bR,e];rw[TH b,<-a,TJ f]
theorem Ao(a:v=skip d x)(c:de d H=de d v)(b:¬(H<d.size/\dm (aI d H)=false))(f:v<H) :
  bR d x=(⟨d.extract v H,0,false,v⟩,H):=by
 have e:de d (skip d x)=H:=by rw[<-a,<-c];exact yZ d H (fun h=>b ⟨h.1,h.2.1⟩)
 simp only[bR,e];rw[TH b,<-a,TH (by omega)]
theorem LN :
  (∃h:H<b.size,dm ((b[H]'h).toNat:Int)=false/\fV ((b[H]'h).toNat:Int)=true/\de b (H+1)=de b H) ∨
  (∃h:H<b.size,dm ((b[H]'h).toNat:Int)=false/\fV ((b[H]'h).toNat:Int)=false) ∨
  (∃h:H<b.size,dm ((b[H]'h).toNat:Int)=true)∨(¬H<b.size/\decide ((H:Int)<(b.size:Int))=false):=by
 by_cases h:H<b.size
 ·have e:=bY b H h;cases a:dm (aI b H) with
  | true=>exact TU (TU (TZ ⟨h,e ▸ a⟩))
  | false =>
   cases c:fV (aI b H) with
   | true=>exact TZ ⟨h,e ▸ a,e ▸ c,(Jf b H h a c).symm⟩
   | false=>exact TU (TZ ⟨h,e ▸ a,e ▸ c⟩)
 ·exact TU (TU (TU ⟨h,by simp;omega⟩))
def lk(n:Int):Bool:=decide (33<=n)&&decide (n<=126) && !(n==36)
def g7(s:Xs):Bool:=decide (1<=s.size)&&decide (s.size<=8)&&(List.range s.size).all (fun i=>lk (aI s i))
def dn(n d:Xs):Int:=if g7 n=false then 2 else if 1024<d.size then 3 else 0
theorem nj(h:b.size<1∨8<b.size):g7 b=false:=by
  unfold g7;rcases h with h | h
  · simp[show ¬1<=b.size by omega]
  · simp[show ¬b.size<=8 by omega]
theorem Fy(h:H<b.size)(a:lk (aI b H)=false):g7 b=false:=by
  unfold g7;have:(List.range b.size).all (fun H=>lk (aI b H))=false:=by
    rw[WE];exact⟨H,by simp[h],by simp[a]⟩
  simp[this]
theorem Dq(a:1<=b.size)(c:b.size<=8)(h:∀i,i<b.size->lk (aI b i)=true):g7 b=true:=by
  unfold g7;have:(List.range b.size).all (fun i=>lk (aI b i))=true:=by
    rw[UJ];intro i d;exact h i (by simpa using d)
  simp[this,a,c]
theorem xP(s:b.size<=1073741824) :
    Calls prog 78 #[string b] S fun e p=>e=returned (bool (g7 b))/\p=S:=by
  by_cases l:1<=b.size
  · by_cases m:b.size<=8
    · go_enter func78,ntmps78
      go_wp2
      go_loopg [3] b.size (fun g i wr=>∃k:Nat,k<=b.size/\g=b.size-k/\i=int i64 k/\Xr (∀i,i<k->lk (aI b i)=true)/\wr=S)
      · exact⟨0,by omega,by omega,rfl,fun i h=>by omega,rfl⟩
      obtain⟨k,r,q,rfl,a,rfl⟩:=hrel;by_cases d:k<b.size
      · have j:∀c:Bool,lk (b[k].toNat:Int)=c->lk (aI b k)=c:=fun c h=>by rw[bY b k d];exact h
        have f:Xr (∀c:Bool,lk (b[k].toNat:Int)=c->lk (aI b k)=c):=j;clear j;go_wp2
        all_goals first
          | (go_ret;refine⟨aF ?_,rfl⟩;rw[Fy b k d (f.o false ?_)];first | (simp[lk];omega) | (simp[lk];simp at *;omega))
          | (go_roundg (b.size-(k+1))
             case measure=>omega
             case rel =>
               refine⟨k+1,by omega,rfl,by go_num,?_,rfl⟩;intro i n;by_cases e:i=k
               · subst e;exact f.o true (by simp[lk];simp at *;omega)
               · exact a.o i (by omega))
      · go_wp2
        go_ret;exact⟨aF (Dq b l m (fun i n=>a.o i (by omega))).symm,rfl⟩
    · go_enter func78,ntmps78
      go_wp2
      all_goals go_ret
      all_goals exact⟨aF (nj b (TU (by omega))).symm,rfl⟩
  · go_enter func78,ntmps78
    go_wp2
    all_goals go_ret
    all_goals exact⟨aF (nj b (TZ (by omega))).symm,rfl⟩
theorem oP(c:f.size<=1073741824)(j:b.size<=4294967296) :
    Calls prog 50 #[string f,string b] S fun e g=>e=returned (int i64 (dn f b))/\g=S:=by
  cases a:g7 f
  · go_enter func50,ntmps50
    go_wp2_with fail;refine(xP f _ c).mono ?_;rintro e i ⟨rfl,rfl⟩;go_wp2;go_ret;exact⟨au (by simp[dn,a]),rfl⟩
  · by_cases d:1024<b.size
    all_goals
      go_enter func50,ntmps50;go_wp2_with fail;refine(xP f _ c).mono ?_;rintro e i ⟨rfl,rfl⟩;go_wp2;go_ret;exact⟨au (by simp[dn,a,d]),rfl⟩
def aG(fs:Fs)(i:Nat):Xs:=(fs.getD i (⟨#[]⟩,⟨#[]⟩)).1
def ak(fs:Fs)(i:Nat):Xs:=(fs.getD i (⟨#[]⟩,⟨#[]⟩)).2
def pR(fs:Fs):List Value :=
  [string (aG fs 0),string (ak fs 0),string (aG fs 1),string (ak fs 1),string (aG fs 2),string (ak fs 2),string (aG fs 3),string (ak fs 3),int i64 fs.length]
def bO(w:World)(v t:Nat)(fs:Fs)(more:List Value):Prop:=w.heap[v]?=some (.cells (pR fs++more).toArray t)/\fs.length<=4
theorem bO.name{a:Fs}(h:bO w l n a L)(i:Nat)(b:i<4) :
    w.cell? ⟨l,i*2,none⟩=some (string (aG a i))/\w.cell? ⟨l,i*2+1,none⟩=some (string (ak a i)):=by
  constructor <;> rw[ah h.1]
  all_goals
    match i,b with
    | 0,_=>rfl
    | 1,_=>rfl
    | 2,_=>rfl
    | 3,_=>rfl
theorem bO.count{a:Fs}(h:bO w l n a L) :
    w.cell? ⟨l,8,none⟩=some (int i64 a.length):=by
  rw[ah h.1];rfl
def dQ(n:Xs):Fs->Nat->Int
  | [],_=>-1
  | f :: r,i=>if(f.1.toList==n.toList)=true then i else dQ n r (i+1)
def bS(fs:Fs)(n:Xs):Int:=dQ n fs 0
theorem Ik{α:Type}(l:List α)(k:Nat)(h:k<l.length):l.drop k=l[k] :: l.drop (k+1):=Uj h
theorem zP(a:Fs)(k:Nat)(h:k<a.length):aG a k=a[k].1:=by
  unfold aG;rw[TG,TF h];rfl
theorem Da(a:Fs)(n:Xs)(k:Nat)(h:k<a.length)(c:bS a n=dQ n (a.drop k) k)(b:((aG a k).toList==n.toList)=true):bS a n=k:=by
  rw[c,Ik _ _ h,dQ,<-zP a k h,TJ b]
theorem zR(a:Fs)(n:Xs)(k:Nat)(h:k<a.length)(c:bS a n=dQ n (a.drop k) k)(b:((aG a k).toList==n.toList)=false):bS a n=dQ n (a.drop (k+1)) (k+1):=by
  rw[c,Ik _ _ h,dQ,<-zP a k h,TH (by simp[b])]
theorem zS(a:Fs)(n:Xs)(k:Nat)(h:¬k<a.length)(b:bS a n=dQ n (a.drop k) k):bS a n=-1:=by
  rw[b,U7 (by omega),dQ]
theorem mu(b:Fs)(f:List Value)(n:Xs)(w:World)(h:bO w v H b f) :
    Calls prog 51 #[pointer (some ⟨v,0,none⟩),string n] w fun e p=>e=returned (int i64 (bS b n))/\p=w:=by
  have l:=h.count;have m:=h.2;go_enter func51,ntmps51;go_wp2
  go_loopg [5] b.length (fun g i wr=>∃k:Nat,k<=b.length/\g=b.length-k/\i=int i64 k/\Xr (bS b n=dQ n (b.drop k) k)/\wr=w)
  · exact⟨0,by omega,by omega,rfl,rfl,rfl⟩
  obtain⟨k,r,q,rfl,a,rfl⟩:=hrel;by_cases c:k<b.length
  · obtain⟨s,t⟩:=h.name k (by omega)
    cases j:((aG b k).toList==n.toList)
    · have d:Xr (bS b n=dQ n (b.drop (k+1)) (k+1)):=zR b n k c a.o j
      clear a;go_wp2;go_roundg (b.length-(k+1))
      · exact⟨k+1,by omega,rfl,by go_num,d,rfl⟩
      omega
    · have d:Xr (bS b n=k):=Da b n k c a.o j
      clear a;go_wp2;go_ret;exact⟨au d.o.symm,rfl⟩
  · have d:Xr (bS b n=-1):=zS b n k c a.o
    clear a;go_wp2;go_ret;exact⟨au d.o.symm,rfl⟩
theorem bO.free{a:Fs}(h:bO w l n a L)(i:Nat):w.frozen? ⟨l,i,none⟩=false:=am h.1 i
theorem bO.Yb{a:Fs}(h:bO w l n a L)(b:ae y w T)(c:l∉y):bO T l n a L :=
 ⟨b.get h.1 c,h.2⟩
theorem bO.lt{a:Fs}(h:bO w l n a L):l<w.heap.size:=aj h.1
theorem MP(a:Fs)(b:List Value)(w:World)(h:bO w x v a b)(i:H<a.length) :
  Calls prog 155 #[pointer (some ⟨x,0,none⟩),int i64 H] w fun e g=>e=returned (agg #[string (aG a H),string (ak a H)])/\ae [] w g:=by
 have c:=h.count;have d:=h.2;have f:=h.lt;obtain⟨j,k⟩:=h.name H (by omega);go_enter func155,ntmps155;go_wp2;exact TR (v:=agg #[string (aG a H),string (ak a H)]) (by simp[results,results155,go_sem]) rfl ⟨rfl,(ae.refl _ _).alloc _⟩
theorem Qt(f:Fs)(e:List Value)(n d:Xs)(h:f.length<4) :
  (((pR f++e).set (f.length*2) (string n)).set (f.length*2+1) (string d)).set 8 (int i64 ((f.length:Int)+1))=pR (f++[(n,d)])++e:=by
 match f,h with
 | [],_=>rfl
 | [a],_=>rfl
 | [a,b],_=>rfl
 | [a,b,c],_=>rfl
theorem Qu(g:Fs)(f:List Value)(n d:Xs)(k:Nat)(i:k<g.length)(h:g.length<=4) :
  ((pR g++f).set (k*2) (string n)).set (k*2+1) (string d)=pR (g.set k (n,d))++f:=by
 match g,h,k,i with
 | [a],_,0,_=>rfl
 | [a,b],_,0,_=>rfl
 | [a,b],_,1,_=>rfl
 | [a,b,c],_,0,_=>rfl
 | [a,b,c],_,1,_=>rfl
 | [a,b,c],_,2,_=>rfl
 | [a,b,c,e],_,0,_=>rfl
 | [a,b,c,e],_,1,_=>rfl
 | [a,b,c,e],_,2,_=>rfl
 | [a,b,c,e],_,3,_=>rfl
theorem bO.added{a:Fs}(h:bO w l n a L)(b d:Xs)(e:a.length<4) :
  bO (((w.setCell ⟨l,a.length*2,none⟩ (string b)).setCell ⟨l,a.length*2+1,none⟩ (string d)).setCell ⟨l,8,none⟩ (int i64 ((a.length:Int)+1))) l n (a++[(b,d)]) L:=by
 have c:=ab (ab (ab h.1 (a.length*2) (string b)) (a.length*2+1) (string d)) 8 (int i64 ((a.length:Int)+1));refine⟨?_,by simp;omega⟩;rw[c];simp only[List.setIfInBounds_toArray,Qt a L b d e]
theorem bO.turned{a:Fs}(h:bO w l n a L)(b d:Xs)(k:Nat)(e:k<a.length) :
  bO ((w.setCell ⟨l,k*2,none⟩ (string b)).setCell ⟨l,k*2+1,none⟩ (string d)) l n (a.set k (b,d)) L:=by
 have c:=ab (ab h.1 (k*2) (string b)) (k*2+1) (string d);refine⟨?_,by simpa using h.2⟩;rw[c];simp only[List.setIfInBounds_toArray,Qu a L b d k e h.2]
theorem Ic(c:Fs)(a:List Value)(w:World)(h:bO w I x c a)(j:c.length<4) :
  Calls prog 52 #[pointer (some ⟨I,0,none⟩),agg #[string f,string b]] w fun e g=>e=returned (tuple #[])/\bO g I x (c++[(f,b)]) a/\ae [I] w g:=by
 have d:=h.count;have i:=h.free;have k:=h.lt;obtain⟨l,m⟩:=h.name c.length (by omega);go_enter func52,ntmps52;go_wp2;go_region
 all_goals go_wp2
 all_goals go_end0
 exact⟨rfl,(h.added f b j).Yb (kr0.alloc _ |>.drew) (by simp),((((ae.refl _ _).sl1 _).sl1 _).sl1 _).alloc _ |>.drew⟩
def fI(fs:Fs)(n d:Xs):Int×Fs :=
 if dn n d≠0 then(dn n d,fs)
 else if 0<=bS fs n then(0,fs.set (bS fs n).toNat (n,d))
 else if 4<=fs.length then(1,fs) else(0,fs++[(n,d)])
theorem C8(a:Fs)(i:Nat):dQ b a i=-1∨((i:Int)<=dQ b a i/\dQ b a i<i+a.length):=by
 induction a generalizing i with
 | nil=>exact TZ rfl
 | cons f r c =>
  rw[dQ];split
  ·exact TU ⟨by omega,by simp;omega⟩
  ·rcases c (i+1) with h | h
   ·exact TZ h
   ·exact TU ⟨by omega,by simp;omega⟩
theorem qD(a:Fs):bS a b=-1∨∃k:Nat,k<a.length/\bS a b=k:=by
 rcases C8 b a 0 with h | h
 ·exact TZ h
 ·refine TU ⟨(bS a b).toNat,?_,?_⟩ <;> (unfold bS;omega)
theorem IP(a:Fs)(c:List Value)(w:World)(h:bO w I x a c)(p:f.size<=1073741824)(n:b.size<=4294967296) :
  Calls prog 33 #[pointer (some ⟨I,0,none⟩),string f,string b] w fun e u=>e=returned (int i64 (fI a f b).1)/\bO u I x (fI a f b).2 c/\ae [I] w u:=by
 have r:=h.count;have B:=h.lt;have t:=h.2;by_cases d:dn f b=0
 ·rcases qD f a with j | ⟨k,A,j⟩
  ·by_cases s:4<=a.length
   ·have i:Xr (fI a f b=(1,a)):=(by show fI a f b=_;simp[fI,d,j,s]);have m:Xr (dn f b=0):=d;have g:Xr (bS a f=-1):=j;clear d j;go_enter func33,ntmps33;go_wp2_with fail;refine(oP f b _ p n).mono ?_;rintro e l ⟨rfl,rfl⟩;rw[m.o];go_wp2_with fail;refine(mu I x a c f _ (by exact h.Yb (kr0.alloc _) (by simp))).mono ?_;rintro e l ⟨rfl,rfl⟩;rw[g.o];go_wp2;go_ret;exact⟨au (by rw[i.o]),by rw[i.o];exact h.Yb (kr0.alloc _) (by simp),(ae.refl _ _).alloc _⟩
   ·have i:Xr (fI a f b=(0,a++[(f,b)])):=(by show fI a f b=_;simp[fI,d,j,s]);have m:Xr (dn f b=0):=d;have g:Xr (bS a f=-1):=j;clear d j;go_enter func33,ntmps33;go_wp2_with fail;refine(oP f b _ p n).mono ?_;rintro e l ⟨rfl,rfl⟩;rw[m.o];go_wp2_with fail;refine(mu I x a c f _ (by exact h.Yb (kr0.alloc _) (by simp))).mono ?_;rintro e l ⟨rfl,rfl⟩;rw[g.o];go_wp2_with fail;refine(Ic I x f b a c _ (by exact h.Yb (kr0.alloc _) (by simp)) (by omega)).mono ?_;rintro e E ⟨rfl,v,q⟩;go_wp2;go_ret;exact⟨au (by rw[i.o]),by rw[i.o];exact v,((ae.refl _ _).alloc _).trans q⟩
  ·have i:Xr (fI a f b=(0,a.set k (f,b))):=(by show fI a f b=_;simp[fI,d,j]);have m:Xr (dn f b=0):=d;have g:Xr (bS a f=k):=j;obtain⟨C,D⟩:=h.name k (by omega);have z:=h.free;clear d j;go_enter func33,ntmps33;go_wp2_with fail;refine(oP f b _ p n).mono ?_;rintro e l ⟨rfl,rfl⟩;rw[m.o];go_wp2_with fail;refine(mu I x a c f _ (by exact h.Yb (kr0.alloc _) (by simp))).mono ?_;rintro e l ⟨rfl,rfl⟩;rw[g.o];go_wp2_with fail;go_region
   all_goals go_wp2
   all_goals go_ret
   exact⟨au (by rw[i.o]),by rw[i.o];exact(h.turned f b k A).Yb (kr0.alloc _ |>.drew) (by simp),(((ae.refl _ _).sl1 _).sl1 _).alloc _ |>.drew⟩
 ·have i:Xr (fI a f b=(dn f b,a)):=by show fI a f b=_;simp[fI,d]
  have y:(dn f b != 0)=true:=by simp[d]
  clear d;go_enter func33,ntmps33;go_wp2_with fail;refine(oP f b _ p n).mono ?_;rintro e l ⟨rfl,rfl⟩;go_wp2;go_ret;exact⟨au (by rw[i.o]),by rw[i.o];exact h,ae.refl _ _⟩
structure Hd where
 ao:Xu
 cap:Nat
def Hd.Yc(h:Hd):Option Nat:=h.ao.map (·.block)
structure eQ where
 e:TypeId
 size:Nat
 n:Nat
 xs:List Value
def aB(w:World)(h:Hd)(r:eQ):Prop:=w.ownsRow 0 r.e r.size (slice h.ao r.n h.cap) r.n r.xs
theorem BI(h:Hd)(n:Nat):(slice h.ao n h.cap).ownBlock=h.Yc:=by
 unfold Hd.Yc;cases h.ao <;> rfl
theorem aB.lt{h:Hd}{r:eQ}(o:aB w h r){k:Nat}(a:h.Yc=some k):k<w.heap.size :=
 (World.ownsRow.lt (h:=o) k (by rw[BI];exact a)).2
theorem aB.XX{w':World}{h:Hd}{r:eQ}(o:aB w h r)(n:∀k,h.Yc=some k->w'.heap[k]?=w.heap[k]?):aB w' h r:=by
 refine⟨o.1,?_⟩;rcases o.2 with m | ⟨g,b,c,a,j,l,d,e,f,i⟩
 ·exact TZ m
 ·refine TU ⟨g,b,c,a,j,?_,d,e,f,i⟩;rw[n g (by unfold Hd.Yc;injection a with a;rw[a];rfl)];exact l
theorem aB.X9{h:Hd}{r:eQ}(o:aB w h r) :
  (h=⟨none,0⟩/\r.n=0/\r.xs=[])∨∃g a,h.ao=some ⟨g,0,none⟩/\w.heap[g]?=some (.cells a r.e)/\r.n<=h.cap/\h.cap<=maxLen/\a.size=h.cap*r.size/\a.toList.take (r.n*r.size)=r.xs:=by
 rcases o.2 with ⟨b,f⟩ | ⟨g,j,a,b,s,q,k,l,m,p⟩
 ·left
  injection b with c i d
  refine⟨by cases h;simp_all,f,Us (by rw[o.1,f];simp)⟩
 ·right
  injection b with c i d
  subst d;exact⟨g,a,c,q,k,l,m,p⟩
theorem bX:(⟨v,0,none⟩:Addr).add H=⟨v,H,none⟩:=by
 simp only[Addr.add];split
 ·next h=>subst h;rfl
 ·simp
theorem aB.cell{h:Hd}{r:eQ}(o:aB w h r)(a:h.ao=some ⟨l,0,none⟩)(j:Nat)(u:Value)(b:r.xs[j]?=some u):w.cell? ⟨l,j,none⟩=some u:=by
 have:=o.cells (g:=l) (by rw[BI];unfold Hd.Yc;rw[a];rfl) j u b;rw[bX]at this;exact this
theorem aL{y:List Oper}(Q:s.guard=none)(H x:Operand)(t:TypeId)(C:s.op=Op.call { callee:=Callee.builtin Builtin.append,args:=#[H,x],argTypes:=#[t,t] })(i:TypeInfo)(z:Value)(f:Nat)(h:Hd)(r:eQ)(K:m.underlying t=some (.slice r.e))(L:m.info? r.e=some i)(h3:i.zero=some z)(M:i.size=r.size)(h5:i.bytes=f)(h6:z.cells.size=r.size)(h7:0<r.size)(T:z5.eval H=slice h.ao r.n h.cap)(o:aB S h r)(E:Addr)(p c:Nat)(d:List Value)(U:z5.eval x=slice (some E) p c)(R:d.length=p*r.size)(P:∀j u,d[j]?=some u->S.cell? (E.add j)=some u)(B:∀u∈d,u.oneCell'=true)(hm:0<p)(b1:r.n+p<=maxLen)(I:(r.n+p)*f<=140737488355328)(N:∀g a w,aB w ⟨some ⟨g,0,none⟩,a⟩ ⟨r.e,r.size,r.n+p,r.xs++d⟩->S.grownBy w h.Yc->(h.Yc=some g∨S.heap.size<=g)->wpList m y3 y7 y (z5.put s.dst (slice (some ⟨g,0,none⟩) (r.n+p) a)) w) :
  wpList m y3 y7 (s :: y) z5 S:=by
 rcases o.X9 with ⟨v,A,J⟩ | ⟨g,F,v,A,J,e4,e5,e6⟩
 ·refine wpList_append_grows S Q H x t C r.e i z r.size f K L h3 M h5 h6 h7 none 0 0 [] (by rw[T,v,A]) (fun _=>⟨rfl,rfl⟩) (by simp) (by intro b O;cases O) E p c d U R P B (by omega) (by omega) (by rw[A]at I;exact I) ?_;intro v' w D l;rcases D.2 with ⟨_,q⟩ | ⟨g,a,F,V,W,X,Y,Z,q6,q7⟩
  ·omega
  ·have:=N g a w ⟨by have:=D.1;simpa [J,A] using this,TU ⟨g,a,F,by simp,Up _,X,by simpa [A] using Y,Z,q6,by simpa [A,J] using q7⟩⟩ (by rw[v];exact l) (TU W);rw[V];simpa [A] using this
 ·by_cases hf:r.n+p<=h.cap
  ·refine wpList_append_fits S Q H x t C 0 r.e i r.size K L M g r.n h.cap r.xs (by rw[T,v]) (by have:=o;unfold aB at this;rw[v]at this;exact this) E p c d U R P B hf ?_;intro w D l;exact N g h.cap w D (by unfold Hd.Yc;rw[v];exact l) (TZ (by unfold Hd.Yc;rw[v];rfl))
  ·refine wpList_append_grows S Q H x t C r.e i z r.size f K L h3 M h5 h6 h7 (some ⟨g,0,none⟩) r.n h.cap r.xs (by rw[T,v]) (by intro hh;cases hh) o.1 (by intro b O j u hj;cases O;rw[bX];exact o.cell v j u hj) E p c d U R P B (by omega) b1 I ?_;intro v' w D l;rcases D.2 with ⟨_,q⟩ | ⟨g',a,G,V,W,X,Y,Z,q6,q7⟩
   ·omega
   ·have:=N g' a w ⟨D.1,TU ⟨g',a,G,rfl,Up _,X,Y,Z,q6,q7⟩⟩ ⟨l.os,l.tape,l.output,l.size,fun k hk _=>l.block k hk (by simp)⟩ (TU W);rw[V];exact this
theorem zs{P:Program}(p F G c:TypeId)(g f a:Nat)(h:Hd)(r:eQ)(b:Array Value)(t:TypeId)(E:P.underlying p=some (.slice c))(q:(P.info? c).map (·.size)=some a)(C:r.size=a)(y:S.heap[g]?=some (.cells b t))(l:aB S h r)(D:b.size=r.n*a)(x:∀v∈r.xs,v.oneCell'=true) :
  (Builtin.copy_ #[p,F] G #[slice (some ⟨g,0,none⟩) r.n f,slice h.ao r.n h.cap]).run P S=.ok (goInt r.n) (S.setRow g r.xs.toArray):=by
 have B:r.xs.length=r.n*a:=by have:=l.1;rw[C]at this;exact this
 have d:=run_storeCells_at P g 0 t r.xs 0 b S y (by simp;omega) x;have s:(b.toList.take (0+0)++r.xs++b.toList.drop (0+0+r.xs.length))=r.xs:=by
  simp;omega
 rw[s]at d;have k:(Builtin.firstCells a r.n (slice h.ao r.n h.cap)).run P S=.ok r.xs.toArray S:=by
  rcases l.X9 with ⟨e,H,u⟩ | ⟨w,o,e,_⟩
  ·rw[e,u];exact run_firstCells_none S _ _ _ _
  ·rw[e];exact run_firstCells_some S a r.n ⟨w,0,none⟩ r.n h.cap r.xs B (fun j v A=>by rw[bX];exact l.cell e j v A)
 cases m:P.info? c with
 | none=>simp[m]at q
 | some i =>
  have z:i.size=a:=by simpa [m] using q
  simp[Builtin.copy_,run_underlying E,Builtin.lenOf,sizeOf,typeInfo,m,z,k,d]
theorem vV(h:ae y w T)(a:l∈y∨w.heap.size<=l)(c:Array Value):ae y w (T.setRow l c) :=
 ⟨h.os,h.tape,h.output,by have:=h.size;simp[World.setRow];omega,fun k d b=>by
  rw[setRow_other T l k c (by rintro rfl;exact a.elim b (fun a=>by omega))];exact h.block k d b⟩
theorem rr{P:Program}(d j k:TypeId)(g b:Nat)(h:Hd)(r:eQ)(a:Array Value)(t:TypeId)(p:P.underlying d=some (.slice r.e))(o:(P.info? r.e).map (·.size)=some r.size)(i:S.heap[g]?=some (.cells a t))(m:aB S h r)(f:a.size=r.n*r.size)(l:∀v∈r.xs,v.oneCell'=true) :
  ∃c,(Builtin.copy_ #[d,j] k #[slice (some ⟨g,0,none⟩) r.n b,slice h.ao r.n h.cap]).run P S=.ok (goInt r.n) c/\c.heap[g]?=some (.cells r.xs.toArray t)/\ae [g] S c/\c.heap.size=S.heap.size :=
 ⟨_,zs (P:=P) S d j k r.e g b r.size h r a t p o rfl i m f l,setRow_heap S g _ _ t _ i,vV (ae.refl _ _) (TZ (by simp)) _,by simp[World.setRow]⟩
theorem aB.made{r:eQ}(b:w.heap[l]?=some (.cells r.xs.toArray r.e))(a:r.xs.length=r.n*r.size)(c:r.n<=maxLen):aB w ⟨some ⟨l,0,none⟩,r.n⟩ r :=
 ⟨a,TU ⟨l,r.n,r.xs.toArray,rfl,Up _,b,TI _,c,by simpa using a,by simp[<-a]⟩⟩
theorem qW{P:Program}(t C:TypeId)(i:TypeInfo)(z:Value)(d:Nat)(h:Hd)(r:eQ)(F:P.underlying t=some (.slice r.e))(G:P.info? r.e=some i)(U:i.zero=some z)(H:i.size=r.size)(V:i.bytes=d)(W:z.cells.size=r.size)(X:0<r.size)(o:aB S h r)(x:Addr)(m c:Nat)(b:List Value)(J:b.length=m*r.size)(I:∀j u,b[j]?=some u->S.cell? (x.add j)=some u)(B:∀u∈b,u.oneCell'=true)(hm:0<m)(Y:r.n+m<=maxLen)(D:(r.n+m)*d<=140737488355328) :
  ∃g a s,(Builtin.append_ #[t,t] C #[slice h.ao r.n h.cap,slice (some x) m c]).run P S=.ok (slice (some ⟨g,0,none⟩) (r.n+m) a) s /\
   aB s ⟨some ⟨g,0,none⟩,a⟩ ⟨r.e,r.size,r.n+m,r.xs++b⟩/\S.grownBy s h.Yc/\(h.Yc=some g∨S.heap.size<=g):=by
 rcases o.X9 with ⟨p,w,E⟩ | ⟨g,y,p,w,E,e4,e5,e6⟩
 ·obtain⟨v',s,l,v,f,_⟩:=run_append_own (P:=P) S S.heap.size t C r.e i z r.size d F G U H V W X (slice none 0 0) 0 [] (TQ S _ r.e r.size) x m c b J I B (by omega) (by rw[w]at D;exact D) (TI _);rcases v.2 with ⟨_,q⟩ | ⟨g,a,y,K,L,M,N,O,Q,R⟩
  ·omega
  ·refine⟨g,a,s,?_,⟨by have:=v.1;simpa [E,w] using this,TU ⟨g,a,y,by simp,Up _,M,by simpa [w] using N,O,Q,by simpa [w,E] using R⟩⟩,?_,TU L⟩
   ·rw[p,w,l,K]
   ·rw[p];exact f
 ·by_cases Z:r.n+m<=h.cap
  ·obtain⟨s,l,v,f⟩:=run_append_fits (P:=P) S 0 t C r.e i r.size F G H g r.n h.cap r.xs (by have:=o;unfold aB at this;rw[p]at this;exact this) x m c b J I B Z;exact⟨g,h.cap,s,by rw[p,l],v,by unfold Hd.Yc;rw[p];exact f,TZ (by unfold Hd.Yc;rw[p];rfl)⟩
  ·obtain⟨v',s,l,v,f⟩:=run_append_arg_grows (P:=P) S t C r.e i z r.size d F G U H V W X ⟨g,0,none⟩ r.n h.cap r.xs o.1 (by intro j u hj;rw[bX];exact o.cell p j u hj) x m c b J I (by omega) Y D;rcases v.2 with ⟨_,q⟩ | ⟨T,a,A,K,L,M,N,O,Q,R⟩
   ·omega
   ·exact⟨T,a,s,by rw[p,l,K],⟨v.1,TU ⟨T,a,A,rfl,Up _,M,N,O,Q,R⟩⟩,⟨f.os,f.tape,f.output,f.size,fun k hk _=>f.block k hk (by simp)⟩,TU L⟩
theorem da{K:Act->World->Prop}{E:Prop}(N:s.guard=none)(y x:Operand)(t:TypeId)(v:s.op=Op.call { callee:=Callee.builtin Builtin.append,args:=#[y,x],argTypes:=#[t,t] })(i:TypeInfo)(z:Value)(b:Nat)(h:Hd)(r:eQ)(C:m.underlying t=some (.slice r.e))(D:m.info? r.e=some i)(F:i.zero=some z)(G:i.size=r.size)(H:i.bytes=b)(I:z.cells.size=r.size)(J:0<r.size)(Q:z5.eval y=slice h.ao r.n h.cap)(k:aB w h r)(p:Addr)(f c:Nat)(a:List Value)(S:z5.eval x=slice (some p) f c)(P:a.length=f*r.size)(M:∀j u,a[j]?=some u->w.cell? (p.add j)=some u)(q:∀u∈a,u.oneCell'=true)(O:0<f)(A:r.n+f<=maxLen)(B:(r.n+f)*b<=140737488355328)(L:∀g d o,aB o ⟨some ⟨g,0,none⟩,d⟩ ⟨r.e,r.size,r.n+f,r.xs++a⟩->w.grownBy o h.Yc->(h.Yc=some g∨w.heap.size<=g)->K (z5.put s.dst (slice (some ⟨g,0,none⟩) (r.n+f) d)) o) :
  if Region.wanted s (yielded y3 z5.tmps)=true then Oper.wp m s z5 w K y7 else E:=by
 have R:Region.wanted s (yielded y3 z5.tmps)=true:=by simp[Region.wanted,N]
 rw[TJ R];obtain⟨g,d,o,l,T,U,V⟩:=qW (P:=m) w t s.type i z b h r C D F G H I J k p f c a P M q O A B;unfold Oper.wp;simp[execOp,v,resolve,invoke,builtin,Q,S,l,Result.andThen];exact L g d o T U V
theorem dF{P:Program}(t e:TypeId)(i:TypeInfo)(z:Value)(f:P.underlying t=some (.slice e))(d:P.info? e=some i)(g:i.zero=some z)(n a:Nat)(b:i.size=a)(c:i.bytes*n<=281474976710656)(j:n<=1073741824) :
  (Instr.makeSlice t (int i64 n) (int i64 n)).run P S=.ok (slice (some ⟨S.heap.size,0,none⟩) n n) (S.alloc (.cells (madeCells z.cells (n*a)) e)):=by
 have:=run_make (P:=P) S t e i z f d g i64 i64 n n (by omega) (Wo _) (by have:=Int.ofNat_le.2 c;rw[Int.natCast_mul]at this;exact this) (by omega);simpa [b] using this
def jt(w:World)(x:Nat)(fs:Fs)(rep:Bool)(a b c:Value):Prop:=bO w x 80 fs [bool rep,a,b,c]
def PK:Value:=slice none 0 0
def kC(w:World)(x:Nat)(fs:Fs):Prop:=jt w x fs false PK PK PK
def lP(w:World)(x:Nat)(fs:Fs):Prop:=∃rep a b c,jt w x fs rep a b c
theorem kC.anyR{a:Fs}(h:kC w l a):lP w l a:=⟨_,_,_,_,h⟩
theorem jt.anyR{a:Fs}(h:jt w l a z6 i D M):lP w l a:=⟨_,_,_,_,h⟩
theorem kC.Yb{a:Fs}(h:kC w l a)(k:ae y w T)(b:l∉y):kC T l a:=bO.Yb h k b
theorem lP.Yb{d:Fs}(h:lP w l d)(k:ae y w T)(e:l∉y):lP T l d:=by
 obtain⟨r,a,b,c,h⟩:=h;exact⟨r,a,b,c,bO.Yb h k e⟩
theorem lP.lt{d:Fs}(h:lP w l d):l<w.heap.size:=by
 obtain⟨r,a,b,c,h⟩:=h;exact bO.lt h
theorem jt.cells{a:Fs}(h:jt w l a z6 i D M) :
  w.cell? ⟨l,9,none⟩=some (bool z6)/\w.cell? ⟨l,10,none⟩=some i/\w.cell? ⟨l,11,none⟩=some D/\w.cell? ⟨l,12,none⟩=some M:=by
 refine⟨?_,?_,?_,?_⟩ <;> (rw[ah h.1];rfl)
def ED(w:World)(x:Nat)(rep:Bool)(a b c:Value):World:=(((w.setCell ⟨x,9,none⟩ (bool rep)).setCell ⟨x,10,none⟩ a).setCell ⟨x,11,none⟩ b).setCell ⟨x,12,none⟩ c
theorem jt.turn{e:Fs}(h:jt w l e z6 i D M)(a:Bool)(b c d:Value):jt (ED w l a b c d) l e a b c d:=by
 refine⟨?_,h.2⟩;unfold ED;rw[ab (ab (ab (ab h.1 9 (bool a)) 10 b) 11 c) 12 d];rfl
theorem GM(h:ae y w T)(d:l∈y∨w.heap.size<=l)(e:Bool)(a b c:Value):ae y w (ED T l e a b c) :=
 (((h.setCell d _).setCell d _).setCell d _).setCell d _
theorem PJ:Calls prog 28 #[] S fun e a=>e=returned (pointer (some ⟨S.heap.size,0,none⟩))/\kC a S.heap.size []/\ae [] S a:=by
 go_enter func28,ntmps28;go_wp2;go_ret;exact⟨rfl,⟨TN _ _,by simp⟩,(ae.refl _ _).alloc _⟩
theorem xt(f:Fs)(w:World)(h:lP w H f) :
  Calls prog 34 #[pointer (some ⟨H,0,none⟩)] w fun e g=>e=returned (tuple #[])/\kC g H f/\ae [H] w g:=by
 obtain⟨l,a,b,c,h⟩:=h;obtain⟨m,i,j,k⟩:=h.cells;have n:=bO.free h;have d:Xr _:=h.turn false (slice none 0 0) (slice none 0 0) (slice none 0 0);unfold ED at d;go_enter func34,ntmps34;go_wp2;go_end0;exact⟨rfl,d.o,GM (ae.refl _ _) (TZ (by simp)) _ _ _ _⟩
theorem OE(g:Fs)(w:World)(h:lP w x g)(y:f.size<=1073741824)(u:b.size<=4294967296) :
  Calls prog 15 #[pointer (some ⟨x,0,none⟩),string f,string b] w fun e p=>e=returned (int i64 (fI g f b).1)/\lP p x (fI g f b).2/\((fI g f b).1=0->kC p x (fI g f b).2)/\ae [x] w p:=by
 obtain⟨j,a,k,c,h⟩:=h;have q:=IP x 80 f b g [bool j,a,k,c] w h y u;have d:Xr _:=q;clear q;generalize fI g f b=z at *;obtain⟨t,l⟩:=z;simp only at d ⊢;cases v:(t==0)
 ·go_enter func15,ntmps15;go_wp2_with fail;refine TM d.o ?_;rintro e s ⟨rfl,m,i⟩;go_wp2;go_ret;exact⟨rfl,⟨j,a,k,c,m⟩,fun e=>by subst e;simp at v,i⟩
 ·go_enter func15,ntmps15;go_wp2_with fail;refine TM d.o ?_;rintro e s ⟨rfl,m,i⟩;go_wp2_with fail;refine(xt x l s ⟨j,a,k,c,m⟩).mono ?_;rintro e A ⟨rfl,r,n⟩;go_wp2;go_ret;exact⟨rfl,r.anyR,fun _=>r,i.trans n⟩
def dd(f:Nat->Int):Nat->Int
 | 0=>0
 | n+1=>if(dd f n==0)=true then f n else dd f n
theorem nf{n:Nat}(a:dd zt l=0)(h:(zt l==0)=false)(c:l<n):dd zt n=zt l:=by
 induction n with
 | zero=>omega
 | succ n b =>
  rw[dd];by_cases e:l=n
  ·subst e;rw[a];rfl
  ·rw[b (by omega),TH (by rw[h];simp)]
def EU(fs:Fs)(i:Nat):Int:=if(dn (aG fs i) (ak fs i)==0)=false then dn (aG fs i) (ak fs i) else if 0<=bS (fs.take i) (aG fs i) then 4 else 0
def dS(fs:Fs):Int:=if 4<fs.length then 1 else dd (EU fs) fs.length
def jX(fs0 fs:Fs):Fs:=if dS fs=0 then fs else fs0
theorem qK{fs0 a:Fs}(h:dS a=y2)(b:y2≠0):jX fs0 a=fs0:=by unfold jX;rw[TH (by rw[h];exact b)]
theorem z9{fs0 a:Fs}(h:dS a=0):jX fs0 a=a:=by unfold jX;rw[TJ h]
theorem Ru{n:Nat}(h:dd zt n=0):∀i,i<n->zt i=0:=by
 induction n with
 | zero=>intro i b;omega
 | succ n c =>
  rw[dd]at h;split at h
  ·next a =>
   intro i b;by_cases e:i=n
   ·rw[e];exact h
   ·exact c (Wu a) i (by omega)
  ·next a=>rw[h]at a;exact absurd rfl a
theorem PG{a:Fs}(h:dS a=0):a.length<=4/\∀j,j<a.length->(ak a j).size<=1024:=by
 unfold dS at h;split at h
 ·cases h
 ·refine⟨by omega,fun j c=>?_⟩;have b:=Ru h j c;unfold EU at b;split at b
  ·next e=>rw[b]at e;cases e
  ·next e =>
   unfold dn at e;split at e
   ·exact absurd rfl e
   ·split at e
    ·exact absurd rfl e
    ·omega
def mm(fs:Fs):Prop:=∀j,(aG fs j).size<=1073741824/\(ak fs j).size<=1073741824
theorem Bp:(prog.info? 68).map (fun i=>(i.zero,i.size,i.bytes))=some (some (agg #[string ⟨#[]⟩,string ⟨#[]⟩]),2,32):=by kernel_rfl
def QJ(f:Xs×Xs):List Value:=[string f.1,string f.2]
def rT(fs:Fs):List Value:=fs.flatMap QJ
def cW(fs:Fs):eQ:=⟨68,2,fs.length,rT fs⟩
theorem wI(a:Fs):(rT a).length=a.length*2:=by
 induction a with
 | nil=>rfl
 | cons t L b=>rw[rT,UI,TO,show L.flatMap QJ=rT L from rfl,b];simp[QJ];omega
theorem xB(b:Fs)(j:Nat)(h:j<b.length):(rT b)[j*2]?=some (string (aG b j))/\(rT b)[j*2+1]?=some (string (ak b j)):=by
 induction b generalizing j with
 | nil=>simp at h
 | cons a L f =>
  have e:rT (a :: L)=string a.1 :: string a.2 :: rT L:=rfl;cases j with
  | zero=>exact⟨rfl,rfl⟩
  | succ j =>
   obtain⟨c,d⟩:=f j (by simpa using h);rw[e,show(j+1)*2=j*2+1+1 by omega];exact⟨c,d⟩
theorem Is(b:Fs)(k:Nat)(n d:Xs)(h:k<b.length):((rT b).set (k*2) (string n)).set (k*2+1) (string d)=rT (b.set k (n,d)):=by
 induction b generalizing k with
 | nil=>simp at h
 | cons a L c =>
  have e:∀x:Xs×Xs,rT (x :: L)=string x.1 :: string x.2 :: rT L:=fun _=>rfl;cases k with
  | zero=>rfl
  | succ k =>
   rw[Vv,show(k+1)*2=k*2+1+1 by omega,e];show _=string a.1 :: string a.2 :: rT (L.set k (n,d));rw[<-c k (by simpa using h)];rfl
theorem yx(a:Fs)(t:Xs×Xs):(⟨(cW a).e,(cW a).size,(cW a).n+1,(cW a).xs++QJ t⟩:eQ)=cW (a++[t]):=by
 simp[cW,rT]
theorem Ir(a:Fs):∀u∈rT a,u.oneCell'=true:=by
 intro u b;obtain⟨x,-,h⟩:=VY.1 b;unfold QJ at h;simp only[List.mem_cons,List.not_mem_nil,or_false]at h;rcases h with rfl | rfl <;> rfl
structure It where
 B:Xv
 P:World->Prop
 lt:∀w,P w->∀b,b∈B->b<w.heap.size
 ok:∀S w w',P w->ae S w w'->(∀b,b∈B->b∉S)->P w'
def ed(I:Nat×Nat->It)(k:Nat×Nat)(it:It):Nat×Nat->It:=fun q=>if q=k then it else I q
theorem bC(I:Nat×Nat->It)(k:Nat×Nat)(a:It):ed I k a k=a:=by unfold ed;rw[TJ rfl]
theorem TA(I:Nat×Nat->It){k q:Nat×Nat}(a:It)(h:q≠k):ed I k a q=I q:=by unfold ed;rw[TH h]
theorem bm(h:l≠y4):((l,n):Nat×Nat)≠(y4,y5):=fun e=>h (by cases e;rfl)
theorem vg(h:n≠y5):((l,n):Nat×Nat)≠(y4,y5):=fun e=>h (by cases e;rfl)
structure ox(w:World)(I:Nat×Nat->It):Prop where
 all:∀k,(I k).P w
 far:∀k k',k≠k'->∀b,b∈(I k).B->b∉(I k').B
theorem ox.XR{I:Nat×Nat->It}(h:ox w I)(k:ae [] w T):ox T I :=
 ⟨fun q=>(I q).ok [] w T (h.all q) k (fun _ _ a=>by cases a),h.far⟩
theorem ox.put{I:Nat×Nat->It}(h:ox w I)(k:Nat×Nat)(d:It)(K:ae (I k).B w T)(m:d.P T)(l:∀b,b∈d.B->b∈(I k).B∨w.heap.size<=b):ox T (ed I k d):=by
 refine⟨fun q=>?_,fun q f i b a c=>?_⟩
 ·by_cases e:q=k
  ·subst e;rw[bC];exact m
  ·rw[TA I d e];exact(I q).ok _ w T (h.all q) K (fun b a=>h.far q k e b a)
 ·by_cases e:q=k
  ·subst e;rw[bC]at a;rw[TA I d (Ne.symm i)]at c;rcases l b a with g | g
   ·exact h.far q f i b g c
   ·have:=(I f).lt w (h.all f) b c;omega
  ·rw[TA I d e]at a;by_cases j:f=k
   ·subst j;rw[bC]at c;rcases l b c with g | g
    ·exact h.far q f i b a g
    ·have:=(I q).lt w (h.all q) b a;omega
   ·rw[TA I d j]at c;exact h.far q f i b a c
theorem ox.put2{I:Nat×Nat->It}(h:ox w I)(c d:Nat×Nat)(A:c≠d)(j k:It)(K:ae ((I c).B++(I d).B) w T)(D:j.P T)(E:k.P T)(y:∀b,b∈j.B->b∈(I c).B∨w.heap.size<=b)(z:∀b,b∈k.B->b∈(I d).B∨w.heap.size<=b)(u:∀b,b∈j.B->b∉k.B):ox T (ed (ed I c j) d k):=by
 have e:∀q,q≠c->q≠d->∀b,b∈(I q).B->b∉j.B/\b∉k.B:=fun q f a b m=>by
  have:=(I q).lt w (h.all q) b m;refine⟨fun x=>?_,fun x=>?_⟩
  ·rcases y b x with p | p
   ·exact h.far q c f b m p
   ·omega
  ·rcases z b x with p | p
   ·exact h.far q d a b m p
   ·omega
 have s:ed (ed I c j) d k c=j:=by rw[TA _ _ A,bC]
 have t:ed (ed I c j) d k d=k:=bC _ _ _;have o:∀q,q≠c->q≠d->ed (ed I c j) d k q=I q:=fun q f a=>by rw[TA _ _ a,TA _ _ f]
 refine⟨fun q=>?_,fun q i r b f a=>?_⟩
 ·by_cases l:q=c
  ·subst l;rw[s];exact D
  ·by_cases g:q=d
   ·subst g;rw[t];exact E
   ·rw[o q l g];exact(I q).ok _ w T (h.all q) K (fun b m C=>(Ut.1 C).elim (h.far q c l b m) (h.far q d g b m))
 ·by_cases l:q=c
  ·subst l;rw[s]at f;by_cases g:i=d
   ·subst g;rw[t]at a;exact u b f a
   ·rw[o i (Ne.symm r) g]at a;exact(e i (Ne.symm r) g b a).1 f
  ·by_cases g:q=d
   ·subst g;rw[t]at f;by_cases n:i=c
    ·subst n;rw[s]at a;exact u b a f
    ·rw[o i n (Ne.symm r)]at a;exact(e i n (Ne.symm r) b a).2 f
   ·rw[o q l g]at f;by_cases n:i=c
    ·subst n;rw[s]at a;exact(e q l g b f).1 a
    ·by_cases v:i=d
     ·subst v;rw[t]at a;exact(e q l g b f).2 a
     ·rw[o i n v]at a;exact h.far q i r b f a
structure Tk where
 s:Xs
 Yl:Int
 Yi:Xs
 Yj:Int
 Yk:Int
def Cu(t:Tk):List Value:=[string t.s,int i64 t.Yl,string t.Yi,int i64 t.Yj,int i64 t.Yk]
def R4(L:List Tk):List Value:=L.flatMap Cu
def ji(L:List Tk):eQ:=⟨138,5,L.length,R4 L⟩
theorem RU(L:List Tk)(j:Nat)(t:Tk)(h:L[j]?=some t)(c:Nat)(d:c<5):(R4 L)[j*5+c]?=(Cu t)[c]?:=by
 induction L generalizing j with
 | nil=>cases h
 | cons a L b =>
  have e:R4 (a :: L)=Cu a++R4 L:=rfl;cases j with
  | zero =>
   simp at h;subst h;rw[e,Uf (by simp[Cu];omega)];simp
  | succ j =>
   rw[e,Ua (by simp[Cu];omega),show(j+1)*5+c-(Cu a).length=j*5+c by simp[Cu];omega];exact b j (by simpa using h)
theorem Ak(L:List Tk)(t:Tk):(⟨(ji L).e,(ji L).size,(ji L).n+1,(ji L).xs++Cu t⟩:eQ)=ji (L++[t]):=by
 simp[ji,R4]
def dJ(d:Xs):Nat->Nat
 | 0=>0
 | i+1=>if dm (aI d i)=true then i+1 else dJ d i
def m9(nm d:Xs)(s:Xs)(r:Int)(k:Nat):Tk:=⟨s,r,nm,aU d k,bJ d k⟩
def jO(nm d:Xs)(a z:Nat)(L:List Tk):List Tk:=if a=z then L else L++[m9 nm d (d.extract a z) 0 a]
def jN(nm d:Xs):Nat->List Tk
 | 0=>[]
 | i+1=>if dm (aI d i)=true then jO nm d (dJ d i) i (jN nm d i) else jN nm d i
def rR(n:Int):Bool:=!fV n && !dm n
def ke(d:Xs):Option Nat:=(List.range d.size).find? (fun i=>rR (aI d i))
def iY(nm d:Xs):List Tk:=match ke d with
 | some i=>jN nm d i++[m9 nm d ⟨#[]⟩ 1 i]
 | none=>jO nm d (dJ d d.size) d.size (jN nm d d.size)++[m9 nm d ⟨#[]⟩ 0 d.size]
theorem pq(i:Nat):dJ b i<=i:=by
 induction i with
 | zero=>exact TI _
 | succ i a=>rw[dJ];split <;> omega
theorem vG(L:List Tk):(jO f b v H L).length<=L.length+1:=by
 unfold jO;split <;> simp
theorem yW(i:Nat):(jN f b i).length<=i:=by
 induction i with
 | zero=>exact TI _
 | succ i a =>
  rw[jN];split
  ·have:=vG f b (dJ b i) i (jN f b i);omega
  ·omega
theorem AJ:(iY f b).length<=b.size+2:=by
 unfold iY;split
 ·next i h =>
  have:=TY.1 (UC h);have:=yW f b i;simp;omega
 ·have:=vG f b (dJ b b.size) b.size (jN f b b.size);have:=yW f b b.size;simp;omega
def tp(s u:Xs)(i:Nat):Bool:=((s.extract i (i+u.size)).toList==u.toList)
def ii(s u:Xs):Bool:=(List.range (s.size+1)).any (fun i=>decide (i+u.size<=s.size)&&tp s u i)
def ET(t:Xs)(l:List UInt8):Bool:=(t.toList==l)
def bZ:Bool->List Tk->List Tk
 | _,[]=>[]
 | false,t :: r=>if ET t.s [36,40]=true then bZ true r else t :: bZ false r
 | true,t :: r =>
  if(t.Yl==0)=false then t :: bZ true r
  else if ET t.s [36,41]=true then bZ false r
  else if ET t.s []=true then⟨⟨#[]⟩,3,t.Yi,t.Yj,t.Yk⟩ :: bZ true r
  else if(ii t.s ⟨#[36,40]⟩||ii t.s ⟨#[36,41]⟩)=true then [⟨⟨#[]⟩,2,t.Yi,t.Yj,t.Yk⟩]
  else bZ true r
theorem Mq(b:Bool)(L:List Tk):(bZ b L).length<=L.length:=by
 induction L generalizing b with
 | nil=>cases b <;> simp[bZ]
 | cons t L a =>
  have c:=a true;have d:=a false;cases b
  ·rw[bZ];split <;> simp <;> omega
  ·rw[bZ]
   repeat' split
   all_goals (simp;try omega)
def lD(w:World)(ao:Xu)(fs:Fs):Prop:=∀k,k<fs.length->∃g o,ao=some ⟨g,o,none⟩/\g<w.heap.size/\w.cell? ⟨g,o+k*2,none⟩=some (string (aG fs k))/\w.cell? ⟨g,o+k*2+1,none⟩=some (string (ak fs k))
theorem lD.Yb{a:Xu}{c:Fs}(h:lD w a c)(k:ae y w T)(m:∀b,a=some b->b.block∉y):lD T a c:=by
 intro j n;obtain⟨g,o,e,d,f,l⟩:=h j n;have q:∀i,T.cell? ⟨g,i,none⟩=w.cell? ⟨g,i,none⟩:=fun i=>Ud (k.block g d (m _ e));exact⟨g,o,e,TP d k.size,by rw[q];exact f,by rw[q];exact l⟩
theorem Pi(a:Fs)(k:Nat)(h:k<a.length):a.take k++[(aG a k,ak a k)]=a.take (k+1):=by
 rw[WF,TF h];unfold aG ak;rw[TG,TF h];rfl
def EC(w:World)(v:Nat)(fs:Fs):World:=((((((((w.setCell ⟨v,0,none⟩ (string (aG fs 0))).setCell ⟨v,1,none⟩ (string (ak fs 0))).setCell ⟨v,2,none⟩ (string (aG fs 1))).setCell ⟨v,3,none⟩ (string (ak fs 1))).setCell ⟨v,4,none⟩ (string (aG fs 2))).setCell ⟨v,5,none⟩ (string (ak fs 2))).setCell ⟨v,6,none⟩ (string (aG fs 3))).setCell ⟨v,7,none⟩ (string (ak fs 3))).setCell ⟨v,8,none⟩ (int i64 fs.length)
theorem Oj(c a:Fs)(b:List Value):(((((((((pR c++b).set 0 (string (aG a 0))).set 1 (string (ak a 0))).set 2 (string (aG a 1))).set 3 (string (ak a 1))).set 4 (string (aG a 2))).set 5 (string (ak a 2))).set 6 (string (aG a 3))).set 7 (string (ak a 3))).set 8 (int i64 a.length)=pR a++b:=rfl
theorem bO.over{b a:Fs}(h:bO w l n b L)(c:a.length<=4):bO (EC w l a) l n a L:=by
 refine⟨?_,c⟩;unfold EC;rw[ab (ab (ab (ab (ab (ab (ab (ab (ab h.1 0 _) 1 _) 2 _) 3 _) 4 _) 5 _) 6 _) 7 _) 8 _];simp only[List.setIfInBounds_toArray,Oj]
theorem GL(h:ae y w T)(a:l∈y∨w.heap.size<=l)(b:Fs):ae y w (EC T l b) :=
 ((((((((h.setCell a _).setCell a _).setCell a _).setCell a _).setCell a _).setCell a _).setCell a _).setCell a _).setCell a _
theorem bO.nine{a:Fs}(h:bO w l n a L) :
  w.cell? ⟨l,0,none⟩=some (string (aG a 0))/\w.cell? ⟨l,1,none⟩=some (string (ak a 0))/\w.cell? ⟨l,2,none⟩=some (string (aG a 1))/\w.cell? ⟨l,3,none⟩=some (string (ak a 1))/\w.cell? ⟨l,4,none⟩=some (string (aG a 2))/\w.cell? ⟨l,5,none⟩=some (string (ak a 2))/\w.cell? ⟨l,6,none⟩=some (string (aG a 3))/\w.cell? ⟨l,7,none⟩=some (string (ak a 3))/\w.cell? ⟨l,8,none⟩=some (int i64 a.length):=by
 refine⟨?_,?_,?_,?_,?_,?_,?_,?_,?_⟩ <;> (rw[ah h.1];rfl)
set_option maxRecDepth 100000
theorem J7(b a:Fs)(c:List Value)(X:Xu)(Y:Nat)(w:World)(h:bO w v H b c)(hS:lD w X a)(I:mm a) :
  Calls prog 49 #[pointer (some ⟨v,0,none⟩),slice X a.length Y] w fun e j=>e=returned (int i64 (dS a))/\bO j v H (jX b a) c/\ae [v] w j:=by
 have J:Xr (bO w v H b c):=h;by_cases h4:4<a.length
 ·have A:Xr (dS a=1):=by show _=_;unfold dS;rw[TJ h4]
  have P:Xr _:=(qK (fs0:=b) A.o (by decide));rw[A.o];have ac:(4:Int)<a.length:=by omega
  clear h;go_enter func49,ntmps49;go_wp2;go_ret;exact⟨rfl,by rw[P.o];exact J.o,ae.refl _ _⟩
 ·have A:Xr (dS a=dd (EU a) a.length):=by show _=_;unfold dS;rw[TH h4]
  obtain⟨r,K⟩:=bq (dS a);rw[K.o]at A ⊢;have ac:¬(4:Int)<a.length:=by omega
  have HS:Xr (lD w X a):=hS;have D:Xr _:=I;obtain⟨W,R⟩:=bq (w.alloc (.cells #[string ⟨#[]⟩,string ⟨#[]⟩,string ⟨#[]⟩,string ⟨#[]⟩,string ⟨#[]⟩,string ⟨#[]⟩,string ⟨#[]⟩,string ⟨#[]⟩,int i64 0] 73));have O:Xr _:=fH R.o;have Q:Xr (bO W w.heap.size 73 (a.take 0) []):=by show bO _ _ _ _ _;rw[<-R.o];exact⟨TN _ _,by simp⟩
  clear h hS I;go_enter func49,ntmps49;go_upto_region 4 with fail
  rw[R.o];go_wp2
  go_loopg [6] a.length (fun g iv wr=>∃k:Nat,k<=a.length/\g=a.length-k/\iv=int i64 k/\Xr (dd (EU a) k=0)/\Xr (bO wr w.heap.size 73 (a.take k) [])/\Xr (ae [] w wr))
  ·exact⟨0,by omega,rfl,rfl,rfl,Q,O⟩
  obtain⟨k,hk,hg,rfl,T,y,t⟩:=hrel;rcases kn k a.length with ⟨m,an⟩ | ⟨m,-⟩
  ·obtain⟨F,o0,rfl,s,c0,c1⟩:=(lD.Yb HS.o t.o (by simp)) k m;have HC:Xr (∀j,ae [] wr j->j.cell? ⟨F,o0+k*2,none⟩=some (string (aG a k))/\j.cell? ⟨F,o0+k*2+1,none⟩=some (string (ak a k))/\F<j.heap.size):=fun j kw=>⟨by rw[Ud (kw.block F s (by simp))];exact c0,by rw[Ud (kw.block F s (by simp))];exact c1,TP s kw.size⟩
   have B:Xr (∀d,Calls prog 50 #[string (aG a k),string (ak a k)] d fun e j=>e=returned (int i64 (dn (aG a k) (ak a k)))/\j=d):=fun d=>oP _ _ d (D.o k).1 (by have:=(D.o k).2;omega);have u:Xr (∀d,bO d w.heap.size 73 (a.take k) []->Calls prog 51 #[pointer (some ⟨w.heap.size,0,none⟩),string (aG a k)] d fun e j=>e=returned (int i64 (bS (a.take k) (aG a k)))/\j=d):=fun d hx=>mu _ _ _ _ _ d hx;have hl:(a.take k).length=k:=(by rw[UW];omega);have M:Xr (∀d,bO d w.heap.size 73 (a.take k) []->Calls prog 52 #[pointer (some ⟨w.heap.size,0,none⟩),agg #[string (aG a k),string (ak a k)]] d fun e j=>e=returned (tuple #[])/\bO j w.heap.size 73 (a.take (k+1)) []/\ae [w.heap.size] d j):=fun d hx=>by
    rw[<-Pi a k m];exact Ic _ _ _ _ _ _ d hx (by rw[hl];omega)
   have l:Xr (EU a k=if(dn (aG a k) (ak a k)==0)=false then dn (aG a k) (ak a k) else if 0<=bS (a.take k) (aG a k) then 4 else 0):=rfl;have C:Xr ((EU a k==0)=false->r=EU a k):=fun q=>by rw[A.o];exact nf T.o q m
   have N:Xr (EU a k=0->dd (EU a) (k+1)=0):=fun q=>by rw[dd,T.o];exact q
   clear hl;generalize aG a k=nm at *;generalize ak a k=dt at *;obtain⟨Z,U⟩:=bq (dn nm dt);rw[U.o]at B l;obtain⟨fi,V⟩:=bq (bS (a.take k) nm);rw[V.o]at u l;(go_upto_region 7 with fail);go_region_with (go_at_call 50;refine(B.o _).mono ?_;rintro e L ⟨rfl,ai⟩)
   all_goals
    subst ai;obtain⟨L,H9⟩:=bq (wr.drew);rw[H9.o];have f:Xr (ae [] wr L):=by show ae _ _ _;rw[<-H9.o];exact(ae.refl [] wr).drew
    clear c0 c1 s;cases i:(Z==0)
    ·rw[i,TJ rfl]at l;have p:Xr _:=(C.o (by rw[l.o];exact i));rw[l.o]at p;have ad:(Z != 0)=true:=(by unfold bne;rw[i];rfl);go_wp2;go_ret;exact⟨au p.o.symm,by rw[qK (K.o.trans p.o) (fun q=>by rw[q]at i;cases i)];exact bO.Yb J.o (t.o.trans f.o) (by simp),(t.o.trans f.o).mono (by simp)⟩
    ·rw[i,TH (by simp)]at l;have ad:(Z != 0)=false:=(by unfold bne;rw[i];rfl);obtain⟨d0,d1,d2⟩:=HC.o L f.o;have x:Xr (bO L w.heap.size 73 (a.take k) []):=bO.Yb y.o f.o (by simp);by_cases G:0<=fi
     ·rw[TJ G]at l;have p:Xr _:=(C.o (by rw[l.o];rfl));rw[l.o]at p;go_wp2_with (go_at_call 51;refine(u.o _ x.o).mono ?_;rintro e w8 ⟨rfl,n⟩;rw[n];clear n);go_ret;exact⟨au p.o.symm,by rw[qK (K.o.trans p.o) (by decide)];exact bO.Yb J.o (t.o.trans f.o) (by simp),(t.o.trans f.o).mono (by simp)⟩
     ·rw[TH G]at l;have HM:Xr _:=N.o l.o;(go_upto_region 12 with (go_at_call 51;refine(u.o _ x.o).mono ?_;rintro e w8 ⟨rfl,n⟩;rw[n];clear n));go_wp2_with (go_at_call 52;refine(M.o _ x.o).mono ?_;rintro e w8 ⟨rfl,ag,af⟩);go_roundg (a.length-(k+1))
      ·exact⟨k+1,by omega,rfl,by go_num,HM,ag,((t.o.trans f.o).mono (S':=[w.heap.size]) (by simp)).trans af |>.mono (fun q hq m=>by simp at hq;omega)⟩
      omega
  ·have e:k=a.length:=(by omega);subst e;have p:Xr (r=0):=cg (by rw[A.o];exact T.o);have ap:¬(a.length:Int)<a.length:=by omega
   rw[U3]at y;obtain⟨q0,q1,q2,q3,q4,q5,q6,q7,q8⟩:=bO.nine y.o;have z:Xr (bO wr v H b c):=bO.Yb J.o t.o (by simp);obtain⟨p0,p1,p2,p3,p4,p5,p6,p7,p8⟩:=bO.nine z.o;have al:=bO.free z.o;have E:Xr (bO (EC wr v a) v H a c):=bO.over z.o (by omega);unfold EC at E;have S:Xr _:=z9 (fs0:=b) (K.o.trans p.o);go_wp2;go_ret;exact⟨au p.o.symm,by rw[S.o];exact E.o,GL (t.o.mono (by simp)) (TZ (by simp)) _⟩
def Te(w':World)(x:Nat)(fs0 fs:Fs)(rep:Bool)(a b c:Value):Prop:=(dS fs=0->kC w' x (jX fs0 fs))/\(dS fs≠0->jt w' x (jX fs0 fs) rep a b c)
set_option maxRecDepth 512
theorem LI(d g:Fs)(f:Bool)(a b c:Value)(l:Xu)(k:Nat)(w:World)(h:jt w H d f a b c)(x:lD w l g)(r:mm g) :
  Calls prog 31 #[pointer (some ⟨H,0,none⟩),slice l g.length k] w fun e s=>e=returned (int i64 (dS g))/\Te s H d g f a b c/\ae [H] w s:=by
 unfold Te;have j:Xr _:=J7 H 80 d g [bool f,a,b,c] l k w h x r;generalize dS g=u at *;generalize jX d g=m at *;cases p:(u==0)
 ·go_enter func31,ntmps31;go_wp2_with (go_at_call 49;refine TM j.o ?_;rintro e t ⟨rfl,n,i⟩);go_ret;exact⟨rfl,⟨(fun e=>by rw[e]at p;cases p),fun _=>n⟩,i⟩
 ·go_enter func31,ntmps31;go_upto_region 3 with (go_at_call 49;refine TM j.o ?_;rintro e t ⟨rfl,n,i⟩)
  go_wp2_with (go_at_call 34;refine(xt H m t ⟨f,a,b,c,n⟩).mono ?_;rintro e y ⟨rfl,v,q⟩);go_ret;exact⟨rfl,⟨fun _=>v,fun e=>absurd (Wu p) e⟩,i.trans q⟩
theorem Qz(g:Fs)(d:Bool)(a j c:Value)(w:World)(h:jt w x g d a j c)(s:f.size<=1073741824)(r:b.size<=4294967296)(l:(fI g f b).1≠0) :
  Calls prog 15 #[pointer (some ⟨x,0,none⟩),string f,string b] w fun e m=>e=returned (int i64 (fI g f b).1)/\jt m x (fI g f b).2 d a j c/\ae [x] w m:=by
 have i:Xr _:=IP x 80 f b g [bool d,a,j,c] w h s r;generalize fI g f b=t at *;obtain⟨n,p⟩:=t;simp only at i l ⊢;have u:(n==0)=false:=Ui.2 l;clear l;go_enter func15,ntmps15;go_wp2_with (go_at_call 33;refine TM i.o ?_;rintro e v ⟨rfl,q,k⟩);go_ret;exact⟨rfl,q,k⟩
theorem EJ(f:Fs)(n:Xs)(d:Bool)(a b c:Value)(w:World)(h:jt w H f d a b c)(A:bS f n<0) :
  Calls prog 37 #[pointer (some ⟨H,0,none⟩),string n] w fun e k=>e=returned (tuple #[agg #[int i64 0,string ⟨#[]⟩,int i64 0,int i64 0],int i64 5])/\jt k H f d a b c/\ae [H] w k:=by
 obtain⟨W,p⟩:=bq (w.alloc (.cells #[int i64 0,string ⟨#[]⟩,int i64 0,int i64 0] 87));have m:Xr _:=fH p.o;have q:=f9 p.o;have r:jt W H f d a b c:=bO.Yb h m.o (by simp);obtain⟨z,i⟩:=bq (bS f n);rw[i.o]at A;have l:Xr (Calls prog 51 #[pointer (some ⟨H,0,none⟩),string n] W fun e k=>e=returned (int i64 z)/\k=W):=by
  show Calls _ _ _ _ _;rw[<-i.o];exact mu H _ f _ n W r
 obtain⟨B,C,D,E⟩:=CP q;have G:=am q;have g:Xr (∀s t u x,ae [] w ((((W.setCell ⟨w.heap.size,0,none⟩ s).setCell ⟨w.heap.size,1,none⟩ t).setCell ⟨w.heap.size,2,none⟩ u).setCell ⟨w.heap.size,3,none⟩ x)):=fun s t u x=>(((m.o.sr1 (TI _) _).sr1 (TI _) _).sr1 (TI _) _).sr1 (TI _) _;have y:Xr (jt w H f d a b c):=h;clear h r q m;go_enter func37,ntmps37;go_upto_region 1 with fail
 rw[p.o];go_wp2_with (go_at_call 51;refine TM l.o ?_;rintro e F ⟨rfl,j⟩;rw[j];clear j);exact TR (v:=tuple #[agg #[int i64 0,string ⟨#[]⟩,int i64 0,int i64 0],int i64 5]) (by simp[results,results37,go_sem,B,C,D,E]) rfl ⟨rfl,bO.Yb y.o (g.o _ _ _ _) (by simp),(g.o _ _ _ _).mono (by simp)⟩
end Go.Proofs.YtnbhnocdhbcbcaaGreat
