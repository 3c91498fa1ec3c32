import Derived.Test.YtnbhnocdhbcbcaaGreatChecked
import Derived.WalkKit
import Derived.WalkSpells
import Derived.WalkLawsBesides
import Derived.Deep.QuietTactic
import Derived.BigQuiet
import Derived.Deep.LoopGhost
import Derived.Laws.CopyRow
import Derived.Laws.MakeOwn
import Derived.Deep.RegionLaw
import Derived.Deep.RegionHeld3
import Derived.Deep.CutRange
namespace Go.Proofs.YtnbhnocdhbcbcaaGreat
open Go.RowKit Tryz
open Value IntKind Ending
set_option maxHeartbeats 0
abbrev Xs:=ByteArray
abbrev Xt:=List ByteArray
abbrev Xu:=Option Addr
abbrev Xv:=List Nat
variable{y:Xv}{w T:World}{l n y4 y5:Nat}{g:Array Value}{y6:Obj}{m:Program}{i D M z4 z7 y1:Value}{z6:Bool}{y2:Int}{N a:Xs}{L:List Value}{y3:Array Oper}{s:Oper}{z5:Act}{y7:Exit->Act->World->Prop}{zt:Nat->Int}(d:Xs)(I x:Nat)(f b:Xs)(y0:Int)(S:World)(v H:Nat)
def Xr(p:Prop):Prop:=p
theorem Xr.o{p:Prop}(h:Xr p):p:=h
abbrev Tm:=@List.getElem?_eq_getElem
abbrev Tn:=@List.getD_eq_getElem?_getD
abbrev To:=@if_neg
abbrev Tp:=@Nat.le_refl
abbrev Tq:=@if_pos
abbrev Tr:=@Go.Calls.mono
abbrev Ts:=@Go.heap_alloc_new
abbrev Tu:=@List.length_append
abbrev Tv:=@Nat.lt_of_lt_of_le
abbrev Tw:=@Go.World.ownsRow_nil
abbrev Ty:=@Go.bodyPost_ret
abbrev Tz:=@List.getElem?_eq_some_iff
abbrev TA:=@Or.inr
abbrev TE:=@Nat.le_trans
abbrev TF:=@List.mem_range
abbrev TG:=@Or.inl
abbrev TH:=@List.mem_singleton
abbrev TI:=@List.getElem?_append_right
abbrev TJ:=@Go.RowKit.Below.heap_setCell
abbrev TM:=@Bool.and_eq_true
abbrev TN:=@Go.World.cell?_of_block
abbrev TO:=@List.getElem_mem
abbrev TP:=@List.getElem?_append_left
abbrev TQ:=@Nat.one_pos
abbrev TR:=@List.length_map
abbrev TT:=@beq_eq_false_iff_ne
abbrev TU:=@List.drop_eq_getElem_cons
abbrev TV:=@List.append_nil
abbrev TY:=@Go.info_parts
abbrev TZ:=@Go.Calls.quiet_of_same
abbrev T0:=@List.getElem?_map
abbrev Ua:=@List.mem_cons
abbrev Ub:=@Nat.zero_le
abbrev Uc:=@List.mem_cons_of_mem
abbrev Ud:=@List.mem_cons_self
abbrev Ue:=@List.eq_nil_of_length_eq_zero
abbrev Uf:=@List.mem_append
abbrev Ug:=@List.map_append
abbrev Uh:=@Bool.false_eq_true
abbrev Ui:=@List.length_cons
abbrev Uj:=@List.mem_filter
abbrev Uk:=@Bool.or_eq_true
abbrev Ul:=@List.length_set
abbrev Um:=@List.getElem?_eq_none
abbrev Un:=@Go.ByteArray.toList_eq
abbrev Uo:=@List.take_succ_eq_append_getElem
abbrev Up:=@List.length_nil
abbrev Uq:=@Int.toNat_natCast
abbrev Ur:=@List.mem_of_find?_eq_some
abbrev Us:=@List.any_eq_true
abbrev Ut:=@List.setIfInBounds_toArray
abbrev Uu:=@List.flatMap_cons
abbrev Uv:=@List.all_eq_true
abbrev Uw:=@List.length_drop
abbrev Ux:=@List.getElem_of_mem
abbrev Uy:=@Nat.sub_self
abbrev Uz:=@List.getElem?_set
abbrev UA:=@Nat.le_of_lt
abbrev UB:=@List.drop_append_of_le_length
abbrev UC:=@List.mem_append_left
abbrev UD:=@List.find?_eq_none
abbrev UE:=@List.not_mem_nil
abbrev UF:=@List.mem_map
abbrev UG:=@decide_eq_true_eq
abbrev UH:=@List.filter_append
abbrev UI:=@List.length_take
abbrev UJ:=@Bool.or_eq_false_iff
abbrev UK:=@Bool.eq_iff_iff
abbrev UL:=@Nat.add_sub_cancel
abbrev UM:=@Bool.false_or
abbrev UN:=@List.take_length
abbrev UO:=@List.getElem?_replicate
abbrev UP:=@Option.some.inj
abbrev UQ:=@decide_eq_true
abbrev UR:=@List.drop_of_length_le
abbrev US:=@List.find?_range_eq_some
abbrev UT:=@List.range_succ
abbrev UU:=@List.mem_append_right
abbrev UV:=@List.take_append_of_le_length
abbrev UW:=@Go.IntKind.wrap_i64
abbrev UX:=@decide_eq_false
abbrev UY:=@if_false
abbrev UZ:=@List.mem_of_getElem?
abbrev U0:=@List.length_filter_le
abbrev U3:=@List.flatMap_append
abbrev U4:=@List.append_assoc
abbrev U5:=@Bool.true_and
abbrev U6:=@Go.size_madeCells
abbrev U7:=@List.length_range
abbrev U8:=@List.filter_cons_of_neg
abbrev U9:=@beq_iff_eq
abbrev Vb:=@List.takeWhile_cons_of_pos
abbrev Vc:=@Bool.or_false
abbrev Vd:=@Nat.add_zero
abbrev Ve:=@List.take_of_length_le
abbrev Vf:=@List.getElem?_range
abbrev Vg:=@List.find?_some
abbrev Vh:=@List.set_cons_succ
abbrev Vi:=@List.getElem?_cons_succ
abbrev Vj:=@List.length_dropLast
abbrev Vk:=@List.mem_of_mem_take
abbrev Vl:=@List.filter_cons_of_pos
abbrev Vm:=@List.map_cons
abbrev Vn:=@Bool.true_or
abbrev Vo:=@List.foldl_append
abbrev Vp:=@List.ext_getElem?
abbrev Vq:=@Nat.zero_add
abbrev Vr:=@Bool.false_and
abbrev Vs:=@List.takeWhile_cons_of_neg
abbrev Vt:=@List.getLast?_eq_getElem?
abbrev Vu:=@or_false
abbrev Vv:=@List.set_append_right
abbrev Vw:=@List.filterMap_append
abbrev Vx:=@List.cons_append
abbrev Vy:=@List.getElem?_drop
abbrev Vz:=@Go.wp_loop_rounds
abbrev VB:=@List.getLast?_eq_some_getLast
abbrev VC:=@List.getLast?_concat
abbrev VD:=@List.getElem?_cons_zero
abbrev VG:=@List.map_congr_left
abbrev VH:=@List.map_set
abbrev VI:=@List.drop_eq_nil_of_le
abbrev VJ:=@List.mem_flatMap
abbrev VK:=@Nat.mul_le_mul
abbrev VL:=@List.mem_filterMap
abbrev VM:=@List.contains_iff_mem
abbrev VN:=@List.pairwise_iff_getElem
abbrev VO:=@List.any_cons
abbrev VP:=@List.flatMap_def
abbrev VQ:=@List.take_zero
abbrev VR:=@List.length_eq_zero_iff
abbrev VS:=@Go.rounds_succ
abbrev VT:=@List.set_cons_zero
abbrev VU:=@if_true
abbrev VW:=@List.getElem?_take
abbrev VX:=@ByteArray.size_extract
abbrev VY:=@List.filter_eq_nil_iff
abbrev VZ:=@List.pairwise_lt_range
abbrev V3:=@List.nil_append
abbrev V4:=@List.dropLast_concat_getLast
abbrev V5:=@Nat.add_assoc
abbrev V6:=@Bool.or_assoc
abbrev V7:=@List.length_singleton
abbrev V8:=@List.any_eq_false
abbrev V9:=@List.getElem_drop
abbrev Wa:=@Int.le_refl
abbrev Wb:=@List.set_append_left
abbrev Wc:=@Array.toList_setIfInBounds
abbrev Wd:=@List.drop_zero
abbrev We:=@List.mem_of_mem_drop
abbrev Wf:=@Array.toList_inj
abbrev Wg:=@LawfulBEq.eq_of_beq
abbrev Wh:=@List.length_pos_iff
abbrev Wi:=@List.mem_map_of_mem
abbrev Wj:=@List.replicate_succ
abbrev Wk:=@List.length_filterMap_le
abbrev Wl:=@Bool.not_true
abbrev Wm:=@Nat.not_lt_zero
abbrev Wn:=@Int.tmod_lt_of_pos
abbrev Wo:=@List.getElem_range
abbrev Wp:=@Nat.le_succ
abbrev Wq:=@List.all_eq_false
abbrev Wr:=@List.take_add_one
abbrev Ws:=@Go.World.drewN_drewN
abbrev Wt:=@Bool.and_assoc
abbrev Wu:=@Go.run_convert_bytes_back
abbrev Wv:=@Bool.or_true
abbrev Ww:=@Nat.lt_trichotomy
abbrev Wx:=@Array.getElem?_setIfInBounds_ne
abbrev Wy:=@List.length_replicate
abbrev Wz:=@Classical.choose_spec
abbrev WA:=@List.flatMap_nil
abbrev WB:=@List.ext_getElem
abbrev WC:=@List.drop_length
abbrev WD:=@List.find?_eq_some_iff_getElem
abbrev WE:=@beq_self_eq_true
abbrev WF:=@List.map_take
abbrev WG:=@Nat.add_mul
abbrev WH:=@List.dropLast_subset
abbrev WJ:=@List.Pairwise.filter
abbrev WK:=@Int.tmod_nonneg
abbrev WL:=@List.filter_nil
abbrev WM:=@List.foldl_cons
abbrev WN:=@List.find?_cons
abbrev WO:=@Int.toNat_of_nonneg
abbrev WP:=@List.take_succ_cons
abbrev WQ:=@List.filterMap_cons
abbrev WR:=@Nat.succ_pos
abbrev WS:=@List.map_nil
abbrev WT:=@Nat.mod_two_eq_zero_or_one
abbrev WU:=@List.take_take
abbrev WV:=@Go.World.grownBy.refl
abbrev WW:=@Go.Calls.quiet_of
abbrev WX:=@List.filter_filter
abbrev WY:=@Bool.true_eq_false
abbrev WZ:=@Option.toList_some
abbrev Xa:=@Nat.two_pos
abbrev Xb:=@List.filter_congr
abbrev Xc:=@Bool.not_eq_true'
abbrev Xd:=@of_decide_eq_true
abbrev Xe:=@List.reverse_cons
abbrev Xf:=@List.take_set
abbrev Xg:=@ByteArray.ext
abbrev Xh:=@Bool.and_comm
abbrev Xi:=@Option.getD_some
abbrev Xj:=@List.getLast?_cons_cons
abbrev Xk:=@List.filter_cons
abbrev Xl:=@Nat.lt_or_ge
abbrev Xm:=@Nat.zero_mul
abbrev Xn:=@beq_false_of_ne
abbrev Xo:=@List.any_append
abbrev Xp:=@Go.run_underlying
abbrev Xq:=@Nat.mul_one
abbrev Xw:=@Bool.not_false
abbrev Xx:=@List.cons.inj
abbrev Fs:=List (ByteArray×ByteArray)
structure ae(S:Xv)(w w':World):Prop where
 os:w'.os=w.os
 tape:w'.tape=w.tape
 output:w'.output=w.output
 size:w.heap.size<=w'.heap.size
 block:∀k,k<w.heap.size->k∉S->w'.heap[k]?=w.heap[k]?
theorem ae.refl(S:Xv)(w:World):ae S w w:=⟨rfl,rfl,rfl,Tp _,fun _ _ _=>rfl⟩
theorem ae.trans{c:World}(h:ae y w T)(k:ae y T c):ae y w c :=
 ⟨k.os.trans h.os,k.tape.trans h.tape,k.output.trans h.output,TE h.size k.size,
  fun i a b=>(k.block i (Tv a h.size) b).trans (h.block i a b)⟩
theorem ae.mono{S':Xv}(h:ae y w T)(b:∀k,k∈y->k<w.heap.size->k∈S'):ae S' w T :=
 ⟨h.os,h.tape,h.output,h.size,fun k a d=>h.block k a (fun c=>d (b k c a))⟩
theorem ae.drew(h:ae y w T):ae y w T.drew:=⟨h.os,h.tape,h.output,h.size,h.block⟩
theorem ae.drewN(h:ae y w T)(n:Nat):ae y w (T.drewN n):=⟨h.os,h.tape,h.output,h.size,h.block⟩
theorem ae.alloc(h:ae y w T)(o:Obj):ae y w (T.alloc o) :=
 h.trans ⟨rfl,rfl,rfl,by simp,fun k a _=>Below.heap_alloc _ _ _ a⟩
theorem ae.setCell(h:ae y w T){p:Addr}(a:p.block∈y∨w.heap.size<=p.block)(u:Value):ae y w (T.setCell p u) :=
 ⟨h.os,h.tape,h.output,by have:=h.size;simp[World.setCell];omega,fun k c b=>by
  rw[TJ _ _ _ _ (by rintro rfl;exact a.elim b (fun a=>by omega))];exact h.block k c b⟩
theorem ae.below(h:ae [] w T):Below w.heap.size w T :=
 ⟨h.os,h.tape,h.output,h.size,fun k a=>h.block k a (by simp)⟩
theorem ah(h:w.heap[l]?=some (.cells g n))(i:Nat):w.cell? ⟨l,i,none⟩=g[i]?:=by
 unfold World.cell?;simp[h]
theorem am(h:w.heap[l]?=some (.cells g n))(i:Nat):w.frozen? ⟨l,i,none⟩=false:=by
 unfold World.frozen?;simp[h]
theorem ab(h:w.heap[l]?=some (.cells g n))(i:Nat)(u:Value) :
  (w.setCell ⟨l,i,none⟩ u).heap[l]?=some (.cells (g.setIfInBounds i u) n):=by
 simp[World.setCell,Array.getElem?_modify,h]
theorem aj(h:w.heap[l]?=some y6):l<w.heap.size:=by
 rcases Xl l w.heap.size with a | a
 ·exact a
 ·rw[Array.getElem?_eq_none a]at h;simp at h
theorem NI{f:FuncId}(h:Calls m f g (w.drewN (l+n)) fun e a=>e=returned i/\a=w.drewN (l+n)) :
  Calls m f g (w.drewN (l+n)) fun e a=>e=returned i/\∃c,a=w.drewN (l+c) :=
 h.mono fun _ _ b=>⟨b.1,n,b.2⟩
theorem aF{b:Bool}(h:z6=b):Ending.returned (bool z6)=returned (bool b):=by rw[h]
theorem au{k:IntKind}{b:Int}(h:y2=b):Ending.returned (int k y2)=returned (int k b):=by rw[h]
theorem Jy(h:N.toList=a.toList):N=a:=by
 rw[Un,Un]at h;cases N;cases a
 simp only[Array.toList_inj]at h;rw[h]
theorem A9(h:w.heap[l]?=some (.cells #[i,D] n)):w.cell? ⟨l,0,none⟩=some i/\w.cell? ⟨l,1,none⟩=some D :=
 ⟨ah h _,ah h _⟩
theorem wm(h:w.heap[l]?=some (.cells #[i,D,M] n)):w.cell? ⟨l,0,none⟩=some i/\w.cell? ⟨l,1,none⟩=some D/\w.cell? ⟨l,2,none⟩=some M :=
 ⟨ah h _,ah h _,ah h _⟩
theorem CJ(h:w.heap[l]?=some (.cells #[i,D,M,z4] n)):w.cell? ⟨l,0,none⟩=some i/\w.cell? ⟨l,1,none⟩=some D/\w.cell? ⟨l,2,none⟩=some M/\w.cell? ⟨l,3,none⟩=some z4 :=
 ⟨ah h _,ah h _,ah h _,ah h _⟩
theorem oc(h:w.heap[l]?=some (.cells #[i,D,M,z4,z7] n)):w.cell? ⟨l,0,none⟩=some i/\w.cell? ⟨l,1,none⟩=some D/\w.cell? ⟨l,2,none⟩=some M/\w.cell? ⟨l,3,none⟩=some z4/\w.cell? ⟨l,4,none⟩=some z7 :=
 ⟨ah h _,ah h _,ah h _,ah h _,ah h _⟩
theorem JB(h:w.heap[l]?=some (.cells #[i,D,M,z4,z7,y1] n)):w.cell? ⟨l,0,none⟩=some i/\w.cell? ⟨l,1,none⟩=some D/\w.cell? ⟨l,2,none⟩=some M/\w.cell? ⟨l,3,none⟩=some z4/\w.cell? ⟨l,4,none⟩=some z7/\w.cell? ⟨l,5,none⟩=some y1 :=
 ⟨ah h _,ah h _,ah h _,ah h _,ah h _,ah h _⟩
theorem wn{a b:Value}(h:w.heap[l]?=some (.cells #[i,D,M,z4,z7,y1,a,b] n)):w.cell? ⟨l,0,none⟩=some i/\w.cell? ⟨l,1,none⟩=some D/\w.cell? ⟨l,2,none⟩=some M/\w.cell? ⟨l,3,none⟩=some z4/\w.cell? ⟨l,4,none⟩=some z7/\w.cell? ⟨l,5,none⟩=some y1/\w.cell? ⟨l,6,none⟩=some a/\w.cell? ⟨l,7,none⟩=some b :=
 ⟨ah h _,ah h _,ah h _,ah h _,ah h _,ah h _,ah h _,ah h _⟩
theorem f8(h:w.alloc (.cells g l)=T):T.heap[w.heap.size]?=some (.cells g l):=by
 rw[<-h];exact Ts _ _
theorem fH(h:w.alloc (.cells g l)=T):ae [] w T:=by
 rw[<-h];exact(ae.refl [] _).alloc _
theorem kn:(v<H/\(v:Int)<(H:Int))∨(¬v<H/\¬(v:Int)<(H:Int)):=by omega
theorem bn{α:Type}(e:α):∃x,Xr (e=x):=⟨_,rfl⟩
theorem cg{p:Prop}(h:p):Xr p:=h
def dm(n:Int):Bool:=n==32||n==9||n==10||n==12||n==13
def fU(n:Int):Bool:=decide (33<=n)&&decide (n<=126)
theorem kR :
  Calls prog 227 #[int u8 y0] S fun e a=>e=returned (bool (dm y0))/\a=S:=by
 go_enter func227,ntmps227;go_wp2
 all_goals go_ret
 all_goals (refine⟨?_,rfl⟩;simp[dm, *])
theorem qd :
  Calls prog 230 #[int u8 y0] S fun e a=>e=returned (bool (fU y0))/\a=S:=by
 go_enter func230,ntmps230;go_wp2
 all_goals go_ret
 all_goals (refine⟨?_,rfl⟩;first | (simp[fU, *];done) | (simp[fU];omega))
def aI(d:Xs)(k:Nat):Int:=if h:k<d.size then((d[k]'h).toNat:Int) else 0
theorem bY(h:H<b.size):aI b H=((b[H]'h).toNat:Int):=by unfold aI;rw[dif_pos h]
def aU(d:Xs):Nat->Int
 | 0=>1
 | k+1=>if aI d k==10 then aU d k+1 else aU d k
def bJ(d:Xs):Nat->Int
 | 0=>1
 | k+1=>if aI d k==10 then 1 else bJ d k+1
theorem Bw(k:Nat):1<=aU b k/\aU b k<=k+1:=by
 induction k with
 | zero=>simp[aU]
 | succ k a=>simp only[aU];split <;> omega
theorem Bd(k:Nat):1<=bJ b k/\bJ b k<=k+1:=by
 induction k with
 | zero=>simp[bJ]
 | succ k a=>simp only[bJ];split <;> omega
def nC(n d:Xs)(k:Nat):Array Value:=#[string n,string d,int i64 k,int i64 (aU d k),int i64 (bJ d k)]
def ce(w:World)(b:Nat)(n d:Xs)(k:Nat):Prop:=w.heap[b]?=some (.cells (nC n d k) 300)
theorem ce.cells(h:ce w l N a n) :
  w.cell? ⟨l,0,none⟩=some (string N)/\w.cell? ⟨l,1,none⟩=some (string a)/\w.cell? ⟨l,2,none⟩=some (int i64 n) /\
  w.cell? ⟨l,3,none⟩=some (int i64 (aU a n))/\w.cell? ⟨l,4,none⟩=some (int i64 (bJ a n)):=by
 refine⟨?_,?_,?_,?_,?_⟩ <;> (rw[ah h];rfl)
theorem ce.XQ(h:ce w l N a n)(c:ae y w T)(b:l∉y):ce T l N a n :=
 (c.block l (aj h) b).trans h
theorem ae.get(b:ae y w T)(h:w.heap[l]?=some y6)(a:l∉y):T.heap[l]?=some y6 :=
 (b.block l (aj h) a).trans h
theorem BU(h:ce w l N a n)(e:n<a.size)(d:((a[n].toNat:Int)==10)=true)(m:Nat) :
  ce (((((w.drewN m).setCell ⟨l,3,none⟩ (int i64 (aU a n+1))).setCell ⟨l,4,none⟩ (int i64 0)).setCell ⟨l,4,none⟩ (int i64 1)).setCell ⟨l,2,none⟩ (int i64 ((n:Int)+1))) l N a (n+1):=by
 have b:(w.drewN m).heap[l]?=some (.cells (nC N a n) 300):=h;have c:=ab (ab (ab (ab b 3 (int i64 (aU a n+1))) 4 (int i64 0)) 4 (int i64 1)) 2 (int i64 ((n:Int)+1));unfold ce;rw[c];simp[nC,aU,bJ,bY a n e,d]
theorem wA(h:ce w l N a n)(e:n<a.size)(d:((a[n].toNat:Int)==10)=false)(m:Nat) :
  ce (((w.drewN m).setCell ⟨l,4,none⟩ (int i64 (bJ a n+1))).setCell ⟨l,2,none⟩ (int i64 ((n:Int)+1))) l N a (n+1):=by
 have b:(w.drewN m).heap[l]?=some (.cells (nC N a n) 300):=h;have c:=ab (ab b 4 (int i64 (bJ a n+1))) 2 (int i64 ((n:Int)+1));unfold ce;rw[c];simp[nC,aU,bJ,bY a n e,d]
theorem Ej(q:b.size<=1024)(a:x<b.size)(h:ce S I f b x) :
  Calls prog 228 #[pointer (some ⟨I,0,none⟩)] S fun e c=>e=returned (tuple #[])/\ce c I f b (x+1)/\ae [I] S c:=by
 obtain⟨i,j,k,l,m⟩:=h.cells;have n:=am h 2;have o:=am h 3;have p:=am h 4;have g:=Bw b x;have d:=Bd b x;go_enter func228,ntmps228;go_wp2;go_quiet (fail);go_wp2;go_quiet (fail);go_wp2
 all_goals go_end0
 all_goals refine⟨rfl,?_,?_⟩
 ·exact BU h a (by assumption) _
 ·exact((((((ae.refl _ _).drewN _).sl1 _).sl1 _).sl1 _).sl1 _)
 ·exact wA h a (by assumption) _
 ·exact((((ae.refl _ _).drewN _).sl1 _).sl1 _)
theorem Ag(h:ce S I f b x) :
  Calls prog 229 #[pointer (some ⟨I,0,none⟩)] S fun e a=>e=returned (agg #[string f,int i64 (aU b x),int i64 (bJ b x)])/\ae [] S a:=by
 obtain⟨c,d,g,i,j⟩:=h.cells;have k:=aj h;go_enter func229,ntmps229;go_wp2;go_region
 all_goals go_wp2
 exact Ty (v:=agg #[string f,int i64 (aU b x),int i64 (bJ b x)]) (by simp[results,results229,go_sem]) rfl ⟨rfl,((ae.refl _ _).alloc _).drew⟩
def qW(d:Xs):Nat->Nat->Nat
 | 0,k=>k
 | f+1,k=>if k<d.size/\dm (aI d k)=true then qW d f (k+1) else k
def skip(d:Xs)(k:Nat):Nat:=qW d (d.size-k) k
def rh(d:Xs):Nat->Nat->Nat
 | 0,k=>k
 | f+1,k=>if k<d.size/\dm (aI d k)=false/\fU (aI d k)=true then rh d f (k+1) else k
def de(d:Xs)(k:Nat):Nat:=rh d (d.size-k) k
theorem IS(h:H<b.size)(a:dm (aI b H)=true):skip b H=skip b (H+1):=by
 unfold skip;rw[show b.size-H=(b.size-(H+1))+1 by omega];rw[qW,Tq ⟨h,a⟩]
theorem uB(h:¬(H<b.size/\dm (aI b H)=true)):skip b H=H:=by
 unfold skip;cases b.size-H with
 | zero=>rfl
 | succ f=>rw[qW,To h]
theorem Ja(h:H<b.size)(a:dm (aI b H)=false)(c:fU (aI b H)=true):de b H=de b (H+1):=by
 unfold de;rw[show b.size-H=(b.size-(H+1))+1 by omega];rw[rh,Tq ⟨h,a,c⟩]
theorem yY(h:¬(H<b.size/\dm (aI b H)=false/\fU (aI b H)=true)):de b H=H:=by
 unfold de;cases b.size-H with
 | zero=>rfl
 | succ f=>rw[rh,To h]
theorem Ar(f k:Nat):k<=qW b f k/\(k<=b.size->qW b f k<=b.size):=by
 induction f generalizing k with
 | zero=>simp[qW]
 | succ f a =>
  rw[qW];split
  ·have:=a (k+1);omega
  ·omega
theorem AG(f k:Nat):k<=rh b f k/\(k<=b.size->rh b f k<=b.size):=by
 induction f generalizing k with
 | zero=>simp[rh]
 | succ f a =>
  rw[rh];split
  ·have:=a (k+1);omega
  ·omega
theorem BY(h:H<=b.size):H<=skip b H/\skip b H<=b.size:=⟨(Ar b _ H).1,(Ar b _ H).2 h⟩
theorem tu(h:H<=b.size):H<=de b H/\de b H<=b.size:=⟨(AG b _ H).1,(AG b _ H).2 h⟩
structure tB where
 text:Xs
 X3:Int
 XX:Bool
 pos:Nat
def fM(n d:Xs)(i:tB):Value:=agg #[string i.text,int i64 i.X3,bool i.XX,string n,int i64 (aU d i.pos),int i64 (bJ d i.pos)]
def bQ(d:Xs)(k:Nat):tB×Nat :=
 let a:=skip d k
 let z:=de d a
 if z<d.size/\dm (aI d z)=false then(⟨⟨#[]⟩,1,false,z⟩,z)
 else if z<=a then(⟨⟨#[]⟩,0,true,a⟩,z)
 else(⟨d.extract a z,0,false,a⟩,z)
theorem Eb(b:v=skip d x)(f:de d H=de d v)(g:H<d.size)(a:dm (aI d H)=false)(c:fU (aI d H)=false) :
  bQ d x=(⟨⟨#[]⟩,1,false,H⟩,H):=by
 have e:de d (skip d x)=H:=by rw[<-b,<-f];exact yY d H (fun h=>by simp[c]at h)
 simp only[bQ,e];rw[Tq ⟨g,a⟩]
theorem Ec(a:v=skip d x)(c:de d H=de d v)(b:¬(H<d.size/\dm (aI d H)=false))(f:H<=v) :
  bQ d x=(⟨⟨#[]⟩,0,true,v⟩,H):=by
 have e:de d (skip d x)=H:=by rw[<-a,<-c];exact yY d H (fun h=>b ⟨h.1,h.2.1⟩)
 simp only[bQ,e];rw[To b,<-a,Tq f]
theorem An(a:v=skip d x)(c:de d H=de d v)(b:¬(H<d.size/\dm (aI d H)=false))(f:v<H) :
  bQ d x=(⟨d.extract v H,0,false,v⟩,H):=by
 have e:de d (skip d x)=H:=by rw[<-a,<-c];exact yY d H (fun h=>b ⟨h.1,h.2.1⟩)
 simp only[bQ,e];rw[To b,<-a,To (by omega)]
theorem LJ :
  (∃h:H<b.size,dm ((b[H]'h).toNat:Int)=false/\fU ((b[H]'h).toNat:Int)=true/\de b (H+1)=de b H) ∨
  (∃h:H<b.size,dm ((b[H]'h).toNat:Int)=false/\fU ((b[H]'h).toNat:Int)=false) ∨
  (∃h:H<b.size,dm ((b[H]'h).toNat:Int)=true)∨(¬H<b.size/\decide ((H:Int)<(b.size:Int))=false):=by
 by_cases h:H<b.size
 ·have e:=bY b H h;cases a:dm (aI b H) with
  | true=>exact TA (TA (TG ⟨h,e ▸ a⟩))
  | false =>
   cases c:fU (aI b H) with
   | true=>exact TG ⟨h,e ▸ a,e ▸ c,(Ja b H h a c).symm⟩
   | false=>exact TA (TG ⟨h,e ▸ a,e ▸ c⟩)
 ·exact TA (TA (TA ⟨h,by simp;omega⟩))
def lk(n:Int):Bool:=decide (33<=n)&&decide (n<=126) && !(n==36)
def g7(s:Xs):Bool:=decide (1<=s.size)&&decide (s.size<=8)&&(List.range s.size).all (fun i=>lk (aI s i))
def dn(n d:Xs):Int:=if g7 n=false then 2 else if 1024<d.size then 3 else 0
theorem nj(h:b.size<1∨8<b.size):g7 b=false:=by
  unfold g7;rcases h with h | h
  · simp[show ¬1<=b.size by omega]
  · simp[show ¬b.size<=8 by omega]
theorem Fq(h:H<b.size)(a:lk (aI b H)=false):g7 b=false:=by
  unfold g7;have:(List.range b.size).all (fun H=>lk (aI b H))=false:=by
    rw[Wq];exact⟨H,by simp[h],by simp[a]⟩
  simp[this]
theorem Dl(a:1<=b.size)(c:b.size<=8)(h:∀i,i<b.size->lk (aI b i)=true):g7 b=true:=by
  unfold g7;have:(List.range b.size).all (fun i=>lk (aI b i))=true:=by
    rw[Uv];intro i d;exact h i (by simpa using d)
  simp[this,a,c]
theorem xO(s:b.size<=1073741824) :
    Calls prog 78 #[string b] S fun e p=>e=returned (bool (g7 b))/\p=S:=by
  by_cases l:1<=b.size
  · by_cases m:b.size<=8
    · go_enter func78,ntmps78
      go_wp2
      go_loopg [3] b.size (fun g i wr=>∃k:Nat,k<=b.size/\g=b.size-k/\i=int i64 k/\Xr (∀i,i<k->lk (aI b i)=true)/\wr=S)
      · exact⟨0,by omega,by omega,rfl,fun i h=>by omega,rfl⟩
      obtain⟨k,r,q,rfl,a,rfl⟩:=hrel;by_cases d:k<b.size
      · have j:∀c:Bool,lk (b[k].toNat:Int)=c->lk (aI b k)=c:=fun c h=>by rw[bY b k d];exact h
        have f:Xr (∀c:Bool,lk (b[k].toNat:Int)=c->lk (aI b k)=c):=j;clear j;go_wp2
        all_goals first
          | (go_ret;refine⟨aF ?_,rfl⟩;rw[Fq b k d (f.o false ?_)];first | (simp[lk];omega) | (simp[lk];simp at *;omega))
          | (go_roundg (b.size-(k+1))
             case measure=>omega
             case rel =>
               refine⟨k+1,by omega,rfl,by go_num,?_,rfl⟩;intro i n;by_cases e:i=k
               · subst e;exact f.o true (by simp[lk];simp at *;omega)
               · exact a.o i (by omega))
      · go_wp2
        go_ret;exact⟨aF (Dl b l m (fun i n=>a.o i (by omega))).symm,rfl⟩
    · go_enter func78,ntmps78
      go_wp2
      all_goals go_ret
      all_goals exact⟨aF (nj b (TA (by omega))).symm,rfl⟩
  · go_enter func78,ntmps78
    go_wp2
    all_goals go_ret
    all_goals exact⟨aF (nj b (TG (by omega))).symm,rfl⟩
theorem oO(c:f.size<=1073741824)(j:b.size<=4294967296) :
    Calls prog 50 #[string f,string b] S fun e g=>e=returned (int i64 (dn f b))/\g=S:=by
  cases a:g7 f
  · go_enter func50,ntmps50
    go_wp2_with fail;refine(xO f _ c).mono ?_;rintro e i ⟨rfl,rfl⟩;go_wp2;go_ret;exact⟨au (by simp[dn,a]),rfl⟩
  · by_cases d:1024<b.size
    all_goals
      go_enter func50,ntmps50;go_wp2_with fail;refine(xO f _ c).mono ?_;rintro e i ⟨rfl,rfl⟩;go_wp2;go_ret;exact⟨au (by simp[dn,a,d]),rfl⟩
def aG(fs:Fs)(i:Nat):Xs:=(fs.getD i (⟨#[]⟩,⟨#[]⟩)).1
def ak(fs:Fs)(i:Nat):Xs:=(fs.getD i (⟨#[]⟩,⟨#[]⟩)).2
def pR(fs:Fs):List Value :=
  [string (aG fs 0),string (ak fs 0),string (aG fs 1),string (ak fs 1),string (aG fs 2),string (ak fs 2),string (aG fs 3),string (ak fs 3),int i64 fs.length]
def bO(w:World)(v t:Nat)(fs:Fs)(more:List Value):Prop:=w.heap[v]?=some (.cells (pR fs++more).toArray t)/\fs.length<=4
theorem bO.name{a:Fs}(h:bO w l n a L)(i:Nat)(b:i<4) :
    w.cell? ⟨l,i*2,none⟩=some (string (aG a i))/\w.cell? ⟨l,i*2+1,none⟩=some (string (ak a i)):=by
  constructor <;> rw[ah h.1]
  all_goals
    match i,b with
    | 0,_=>rfl
    | 1,_=>rfl
    | 2,_=>rfl
    | 3,_=>rfl
theorem bO.count{a:Fs}(h:bO w l n a L) :
    w.cell? ⟨l,8,none⟩=some (int i64 a.length):=by
  rw[ah h.1];rfl
def dQ(n:Xs):Fs->Nat->Int
  | [],_=>-1
  | f :: r,i=>if(f.1.toList==n.toList)=true then i else dQ n r (i+1)
def bS(fs:Fs)(n:Xs):Int:=dQ n fs 0
theorem Ic{α:Type}(l:List α)(k:Nat)(h:k<l.length):l.drop k=l[k] :: l.drop (k+1):=TU h
theorem zO(a:Fs)(k:Nat)(h:k<a.length):aG a k=a[k].1:=by
  unfold aG;rw[Tn,Tm h];rfl
theorem C3(a:Fs)(n:Xs)(k:Nat)(h:k<a.length)(c:bS a n=dQ n (a.drop k) k)(b:((aG a k).toList==n.toList)=true):bS a n=k:=by
  rw[c,Ic _ _ h,dQ,<-zO a k h,Tq b]
theorem zQ(a:Fs)(n:Xs)(k:Nat)(h:k<a.length)(c:bS a n=dQ n (a.drop k) k)(b:((aG a k).toList==n.toList)=false):bS a n=dQ n (a.drop (k+1)) (k+1):=by
  rw[c,Ic _ _ h,dQ,<-zO a k h,To (by simp[b])]
theorem zR(a:Fs)(n:Xs)(k:Nat)(h:¬k<a.length)(b:bS a n=dQ n (a.drop k) k):bS a n=-1:=by
  rw[b,UR (by omega),dQ]
theorem mu(b:Fs)(f:List Value)(n:Xs)(w:World)(h:bO w v H b f) :
    Calls prog 51 #[pointer (some ⟨v,0,none⟩),string n] w fun e p=>e=returned (int i64 (bS b n))/\p=w:=by
  have l:=h.count;have m:=h.2;go_enter func51,ntmps51;go_wp2
  go_loopg [5] b.length (fun g i wr=>∃k:Nat,k<=b.length/\g=b.length-k/\i=int i64 k/\Xr (bS b n=dQ n (b.drop k) k)/\wr=w)
  · exact⟨0,by omega,by omega,rfl,rfl,rfl⟩
  obtain⟨k,r,q,rfl,a,rfl⟩:=hrel;by_cases c:k<b.length
  · obtain⟨s,t⟩:=h.name k (by omega)
    cases j:((aG b k).toList==n.toList)
    · have d:Xr (bS b n=dQ n (b.drop (k+1)) (k+1)):=zQ b n k c a.o j
      clear a;go_wp2;go_roundg (b.length-(k+1))
      · exact⟨k+1,by omega,rfl,by go_num,d,rfl⟩
      omega
    · have d:Xr (bS b n=k):=C3 b n k c a.o j
      clear a;go_wp2;go_ret;exact⟨au d.o.symm,rfl⟩
  · have d:Xr (bS b n=-1):=zR b n k c a.o
    clear a;go_wp2;go_ret;exact⟨au d.o.symm,rfl⟩
theorem bO.free{a:Fs}(h:bO w l n a L)(i:Nat):w.frozen? ⟨l,i,none⟩=false:=am h.1 i
theorem bO.XQ{a:Fs}(h:bO w l n a L)(b:ae y w T)(c:l∉y):bO T l n a L :=
 ⟨b.get h.1 c,h.2⟩
theorem bO.lt{a:Fs}(h:bO w l n a L):l<w.heap.size:=aj h.1
theorem MN(a:Fs)(b:List Value)(w:World)(h:bO w x v a b)(i:H<a.length) :
  Calls prog 155 #[pointer (some ⟨x,0,none⟩),int i64 H] w fun e g=>e=returned (agg #[string (aG a H),string (ak a H)])/\ae [] w g:=by
 have c:=h.count;have d:=h.2;have f:=h.lt;obtain⟨j,k⟩:=h.name H (by omega);go_enter func155,ntmps155;go_wp2;exact Ty (v:=agg #[string (aG a H),string (ak a H)]) (by simp[results,results155,go_sem]) rfl ⟨rfl,(ae.refl _ _).alloc _⟩
theorem Qp(f:Fs)(e:List Value)(n d:Xs)(h:f.length<4) :
  (((pR f++e).set (f.length*2) (string n)).set (f.length*2+1) (string d)).set 8 (int i64 ((f.length:Int)+1))=pR (f++[(n,d)])++e:=by
 match f,h with
 | [],_=>rfl
 | [a],_=>rfl
 | [a,b],_=>rfl
 | [a,b,c],_=>rfl
theorem Qq(g:Fs)(f:List Value)(n d:Xs)(k:Nat)(i:k<g.length)(h:g.length<=4) :
  ((pR g++f).set (k*2) (string n)).set (k*2+1) (string d)=pR (g.set k (n,d))++f:=by
 match g,h,k,i with
 | [a],_,0,_=>rfl
 | [a,b],_,0,_=>rfl
 | [a,b],_,1,_=>rfl
 | [a,b,c],_,0,_=>rfl
 | [a,b,c],_,1,_=>rfl
 | [a,b,c],_,2,_=>rfl
 | [a,b,c,e],_,0,_=>rfl
 | [a,b,c,e],_,1,_=>rfl
 | [a,b,c,e],_,2,_=>rfl
 | [a,b,c,e],_,3,_=>rfl
theorem bO.added{a:Fs}(h:bO w l n a L)(b d:Xs)(e:a.length<4) :
  bO (((w.setCell ⟨l,a.length*2,none⟩ (string b)).setCell ⟨l,a.length*2+1,none⟩ (string d)).setCell ⟨l,8,none⟩ (int i64 ((a.length:Int)+1))) l n (a++[(b,d)]) L:=by
 have c:=ab (ab (ab h.1 (a.length*2) (string b)) (a.length*2+1) (string d)) 8 (int i64 ((a.length:Int)+1));refine⟨?_,by simp;omega⟩;rw[c];simp only[List.setIfInBounds_toArray,Qp a L b d e]
theorem bO.turned{a:Fs}(h:bO w l n a L)(b d:Xs)(k:Nat)(e:k<a.length) :
  bO ((w.setCell ⟨l,k*2,none⟩ (string b)).setCell ⟨l,k*2+1,none⟩ (string d)) l n (a.set k (b,d)) L:=by
 have c:=ab (ab h.1 (k*2) (string b)) (k*2+1) (string d);refine⟨?_,by simpa using h.2⟩;rw[c];simp only[List.setIfInBounds_toArray,Qq a L b d k e h.2]
theorem Hh(c:Fs)(a:List Value)(w:World)(h:bO w I x c a)(j:c.length<4) :
  Calls prog 52 #[pointer (some ⟨I,0,none⟩),agg #[string f,string b]] w fun e g=>e=returned (tuple #[])/\bO g I x (c++[(f,b)]) a/\ae [I] w g:=by
 have d:=h.count;have i:=h.free;have k:=h.lt;obtain⟨l,m⟩:=h.name c.length (by omega);go_enter func52,ntmps52;go_wp2;go_region
 all_goals go_wp2
 all_goals go_end0
 exact⟨rfl,(h.added f b j).XQ (kr0.alloc _ |>.drew) (by simp),((((ae.refl _ _).sl1 _).sl1 _).sl1 _).alloc _ |>.drew⟩
def fI(fs:Fs)(n d:Xs):Int×Fs :=
 if dn n d≠0 then(dn n d,fs)
 else if 0<=bS fs n then(0,fs.set (bS fs n).toNat (n,d))
 else if 4<=fs.length then(1,fs) else(0,fs++[(n,d)])
theorem C1(a:Fs)(i:Nat):dQ b a i=-1∨((i:Int)<=dQ b a i/\dQ b a i<i+a.length):=by
 induction a generalizing i with
 | nil=>exact TG rfl
 | cons f r c =>
  rw[dQ];split
  ·exact TA ⟨by omega,by simp;omega⟩
  ·rcases c (i+1) with h | h
   ·exact TG h
   ·exact TA ⟨by omega,by simp;omega⟩
theorem qB(a:Fs):bS a b=-1∨∃k:Nat,k<a.length/\bS a b=k:=by
 rcases C1 b a 0 with h | h
 ·exact TG h
 ·refine TA ⟨(bS a b).toNat,?_,?_⟩ <;> (unfold bS;omega)
theorem IK(a:Fs)(c:List Value)(w:World)(h:bO w I x a c)(p:f.size<=1073741824)(n:b.size<=4294967296) :
  Calls prog 33 #[pointer (some ⟨I,0,none⟩),string f,string b] w fun e u=>e=returned (int i64 (fI a f b).1)/\bO u I x (fI a f b).2 c/\ae [I] w u:=by
 have r:=h.count;have B:=h.lt;have t:=h.2;by_cases d:dn f b=0
 ·rcases qB f a with j | ⟨k,A,j⟩
  ·by_cases s:4<=a.length
   ·have i:Xr (fI a f b=(1,a)):=(by show fI a f b=_;simp[fI,d,j,s]);have m:Xr (dn f b=0):=d;have g:Xr (bS a f=-1):=j;clear d j;go_enter func33,ntmps33;go_wp2_with fail;refine(oO f b _ p n).mono ?_;rintro e l ⟨rfl,rfl⟩;rw[m.o];go_wp2_with fail;refine(mu I x a c f _ (by exact h.XQ (kr0.alloc _) (by simp))).mono ?_;rintro e l ⟨rfl,rfl⟩;rw[g.o];go_wp2;go_ret;exact⟨au (by rw[i.o]),by rw[i.o];exact h.XQ (kr0.alloc _) (by simp),(ae.refl _ _).alloc _⟩
   ·have i:Xr (fI a f b=(0,a++[(f,b)])):=(by show fI a f b=_;simp[fI,d,j,s]);have m:Xr (dn f b=0):=d;have g:Xr (bS a f=-1):=j;clear d j;go_enter func33,ntmps33;go_wp2_with fail;refine(oO f b _ p n).mono ?_;rintro e l ⟨rfl,rfl⟩;rw[m.o];go_wp2_with fail;refine(mu I x a c f _ (by exact h.XQ (kr0.alloc _) (by simp))).mono ?_;rintro e l ⟨rfl,rfl⟩;rw[g.o];go_wp2_with fail;refine(Hh I x f b a c _ (by exact h.XQ (kr0.alloc _) (by simp)) (by omega)).mono ?_;rintro e E ⟨rfl,v,q⟩;go_wp2;go_ret;exact⟨au (by rw[i.o]),by rw[i.o];exact v,((ae.refl _ _).alloc _).trans q⟩
  ·have i:Xr (fI a f b=(0,a.set k (f,b))):=(by show fI a f b=_;simp[fI,d,j]);have m:Xr (dn f b=0):=d;have g:Xr (bS a f=k):=j;obtain⟨C,D⟩:=h.name k (by omega);have z:=h.free;clear d j;go_enter func33,ntmps33;go_wp2_with fail;refine(oO f b _ p n).mono ?_;rintro e l ⟨rfl,rfl⟩;rw[m.o];go_wp2_with fail;refine(mu I x a c f _ (by exact h.XQ (kr0.alloc _) (by simp))).mono ?_;rintro e l ⟨rfl,rfl⟩;rw[g.o];go_wp2_with fail;go_region
   all_goals go_wp2
   all_goals go_ret
   exact⟨au (by rw[i.o]),by rw[i.o];exact(h.turned f b k A).XQ (kr0.alloc _ |>.drew) (by simp),(((ae.refl _ _).sl1 _).sl1 _).alloc _ |>.drew⟩
 ·have i:Xr (fI a f b=(dn f b,a)):=by show fI a f b=_;simp[fI,d]
  have y:(dn f b != 0)=true:=by simp[d]
  clear d;go_enter func33,ntmps33;go_wp2_with fail;refine(oO f b _ p n).mono ?_;rintro e l ⟨rfl,rfl⟩;go_wp2;go_ret;exact⟨au (by rw[i.o]),by rw[i.o];exact h,ae.refl _ _⟩
structure Hd where
 ao:Xu
 cap:Nat
def Hd.XR(h:Hd):Option Nat:=h.ao.map (·.block)
structure eQ where
 e:TypeId
 size:Nat
 n:Nat
 xs:List Value
def aB(w:World)(h:Hd)(r:eQ):Prop:=w.ownsRow 0 r.e r.size (slice h.ao r.n h.cap) r.n r.xs
theorem BG(h:Hd)(n:Nat):(slice h.ao n h.cap).ownBlock=h.XR:=by
 unfold Hd.XR;cases h.ao <;> rfl
theorem aB.lt{h:Hd}{r:eQ}(o:aB w h r){k:Nat}(a:h.XR=some k):k<w.heap.size :=
 (World.ownsRow.lt (h:=o) k (by rw[BG];exact a)).2
theorem aB.XI{w':World}{h:Hd}{r:eQ}(o:aB w h r)(n:∀k,h.XR=some k->w'.heap[k]?=w.heap[k]?):aB w' h r:=by
 refine⟨o.1,?_⟩;rcases o.2 with m | ⟨g,b,c,a,j,l,d,e,f,i⟩
 ·exact TG m
 ·refine TA ⟨g,b,c,a,j,?_,d,e,f,i⟩;rw[n g (by unfold Hd.XR;injection a with a;rw[a];rfl)];exact l
theorem aB.XO{h:Hd}{r:eQ}(o:aB w h r) :
  (h=⟨none,0⟩/\r.n=0/\r.xs=[])∨∃g a,h.ao=some ⟨g,0,none⟩/\w.heap[g]?=some (.cells a r.e)/\r.n<=h.cap/\h.cap<=maxLen/\a.size=h.cap*r.size/\a.toList.take (r.n*r.size)=r.xs:=by
 rcases o.2 with ⟨b,f⟩ | ⟨g,j,a,b,s,q,k,l,m,p⟩
 ·left
  injection b with c i d
  refine⟨by cases h;simp_all,f,Ue (by rw[o.1,f];simp)⟩
 ·right
  injection b with c i d
  subst d;exact⟨g,a,c,q,k,l,m,p⟩
theorem bX:(⟨v,0,none⟩:Addr).add H=⟨v,H,none⟩:=by
 simp only[Addr.add];split
 ·next h=>subst h;rfl
 ·simp
theorem aB.cell{h:Hd}{r:eQ}(o:aB w h r)(a:h.ao=some ⟨l,0,none⟩)(j:Nat)(u:Value)(b:r.xs[j]?=some u):w.cell? ⟨l,j,none⟩=some u:=by
 have:=o.cells (g:=l) (by rw[BG];unfold Hd.XR;rw[a];rfl) j u b;rw[bX]at this;exact this
theorem aL{y:List Oper}(Q:s.guard=none)(H x:Operand)(t:TypeId)(C:s.op=Op.call { callee:=Callee.builtin Builtin.append,args:=#[H,x],argTypes:=#[t,t] })(i:TypeInfo)(z:Value)(f:Nat)(h:Hd)(r:eQ)(K:m.underlying t=some (.slice r.e))(L:m.info? r.e=some i)(h3:i.zero=some z)(M:i.size=r.size)(h5:i.bytes=f)(h6:z.cells.size=r.size)(h7:0<r.size)(T:z5.eval H=slice h.ao r.n h.cap)(o:aB S h r)(E:Addr)(p c:Nat)(d:List Value)(U:z5.eval x=slice (some E) p c)(R:d.length=p*r.size)(P:∀j u,d[j]?=some u->S.cell? (E.add j)=some u)(B:∀u∈d,u.oneCell'=true)(hm:0<p)(b1:r.n+p<=maxLen)(I:(r.n+p)*f<=140737488355328)(N:∀g a w,aB w ⟨some ⟨g,0,none⟩,a⟩ ⟨r.e,r.size,r.n+p,r.xs++d⟩->S.grownBy w h.XR->(h.XR=some g∨S.heap.size<=g)->wpList m y3 y7 y (z5.put s.dst (slice (some ⟨g,0,none⟩) (r.n+p) a)) w) :
  wpList m y3 y7 (s :: y) z5 S:=by
 rcases o.XO with ⟨v,A,J⟩ | ⟨g,F,v,A,J,e4,e5,e6⟩
 ·refine wpList_append_grows S Q H x t C r.e i z r.size f K L h3 M h5 h6 h7 none 0 0 [] (by rw[T,v,A]) (fun _=>⟨rfl,rfl⟩) (by simp) (by intro b O;cases O) E p c d U R P B (by omega) (by omega) (by rw[A]at I;exact I) ?_;intro v' w D l;rcases D.2 with ⟨_,q⟩ | ⟨g,a,F,V,W,X,Y,Z,q6,q7⟩
  ·omega
  ·have:=N g a w ⟨by have:=D.1;simpa [J,A] using this,TA ⟨g,a,F,by simp,Ub _,X,by simpa [A] using Y,Z,q6,by simpa [A,J] using q7⟩⟩ (by rw[v];exact l) (TA W);rw[V];simpa [A] using this
 ·by_cases hf:r.n+p<=h.cap
  ·refine wpList_append_fits S Q H x t C 0 r.e i r.size K L M g r.n h.cap r.xs (by rw[T,v]) (by have:=o;unfold aB at this;rw[v]at this;exact this) E p c d U R P B hf ?_;intro w D l;exact N g h.cap w D (by unfold Hd.XR;rw[v];exact l) (TG (by unfold Hd.XR;rw[v];rfl))
  ·refine wpList_append_grows S Q H x t C r.e i z r.size f K L h3 M h5 h6 h7 (some ⟨g,0,none⟩) r.n h.cap r.xs (by rw[T,v]) (by intro hh;cases hh) o.1 (by intro b O j u hj;cases O;rw[bX];exact o.cell v j u hj) E p c d U R P B (by omega) b1 I ?_;intro v' w D l;rcases D.2 with ⟨_,q⟩ | ⟨g',a,G,V,W,X,Y,Z,q6,q7⟩
   ·omega
   ·have:=N g' a w ⟨D.1,TA ⟨g',a,G,rfl,Ub _,X,Y,Z,q6,q7⟩⟩ ⟨l.os,l.tape,l.output,l.size,fun k hk _=>l.block k hk (by simp)⟩ (TA W);rw[V];exact this
theorem zr{P:Program}(p F G c:TypeId)(g f a:Nat)(h:Hd)(r:eQ)(b:Array Value)(t:TypeId)(E:P.underlying p=some (.slice c))(q:(P.info? c).map (·.size)=some a)(C:r.size=a)(y:S.heap[g]?=some (.cells b t))(l:aB S h r)(D:b.size=r.n*a)(x:∀v∈r.xs,v.oneCell'=true) :
  (Builtin.copy_ #[p,F] G #[slice (some ⟨g,0,none⟩) r.n f,slice h.ao r.n h.cap]).run P S=.ok (goInt r.n) (S.setRow g r.xs.toArray):=by
 have B:r.xs.length=r.n*a:=by have:=l.1;rw[C]at this;exact this
 have d:=run_storeCells_at P g 0 t r.xs 0 b S y (by simp;omega) x;have s:(b.toList.take (0+0)++r.xs++b.toList.drop (0+0+r.xs.length))=r.xs:=by
  simp;omega
 rw[s]at d;have k:(Builtin.firstCells a r.n (slice h.ao r.n h.cap)).run P S=.ok r.xs.toArray S:=by
  rcases l.XO with ⟨e,H,u⟩ | ⟨w,o,e,_⟩
  ·rw[e,u];exact run_firstCells_none S _ _ _ _
  ·rw[e];exact run_firstCells_some S a r.n ⟨w,0,none⟩ r.n h.cap r.xs B (fun j v A=>by rw[bX];exact l.cell e j v A)
 cases m:P.info? c with
 | none=>simp[m]at q
 | some i =>
  have z:i.size=a:=by simpa [m] using q
  simp[Builtin.copy_,run_underlying E,Builtin.lenOf,sizeOf,typeInfo,m,z,k,d]
theorem vV(h:ae y w T)(a:l∈y∨w.heap.size<=l)(c:Array Value):ae y w (T.setRow l c) :=
 ⟨h.os,h.tape,h.output,by have:=h.size;simp[World.setRow];omega,fun k d b=>by
  rw[setRow_other T l k c (by rintro rfl;exact a.elim b (fun a=>by omega))];exact h.block k d b⟩
theorem rk{P:Program}(d j k:TypeId)(g b:Nat)(h:Hd)(r:eQ)(a:Array Value)(t:TypeId)(p:P.underlying d=some (.slice r.e))(o:(P.info? r.e).map (·.size)=some r.size)(i:S.heap[g]?=some (.cells a t))(m:aB S h r)(f:a.size=r.n*r.size)(l:∀v∈r.xs,v.oneCell'=true) :
  ∃c,(Builtin.copy_ #[d,j] k #[slice (some ⟨g,0,none⟩) r.n b,slice h.ao r.n h.cap]).run P S=.ok (goInt r.n) c/\c.heap[g]?=some (.cells r.xs.toArray t)/\ae [g] S c/\c.heap.size=S.heap.size :=
 ⟨_,zr (P:=P) S d j k r.e g b r.size h r a t p o rfl i m f l,setRow_heap S g _ _ t _ i,vV (ae.refl _ _) (TG (by simp)) _,by simp[World.setRow]⟩
theorem aB.made{r:eQ}(b:w.heap[l]?=some (.cells r.xs.toArray r.e))(a:r.xs.length=r.n*r.size)(c:r.n<=maxLen):aB w ⟨some ⟨l,0,none⟩,r.n⟩ r :=
 ⟨a,TA ⟨l,r.n,r.xs.toArray,rfl,Ub _,b,Tp _,c,by simpa using a,by simp[<-a]⟩⟩
theorem qU{P:Program}(t C:TypeId)(i:TypeInfo)(z:Value)(d:Nat)(h:Hd)(r:eQ)(F:P.underlying t=some (.slice r.e))(G:P.info? r.e=some i)(U:i.zero=some z)(H:i.size=r.size)(V:i.bytes=d)(W:z.cells.size=r.size)(X:0<r.size)(o:aB S h r)(x:Addr)(m c:Nat)(b:List Value)(J:b.length=m*r.size)(I:∀j u,b[j]?=some u->S.cell? (x.add j)=some u)(B:∀u∈b,u.oneCell'=true)(hm:0<m)(Y:r.n+m<=maxLen)(D:(r.n+m)*d<=140737488355328) :
  ∃g a s,(Builtin.append_ #[t,t] C #[slice h.ao r.n h.cap,slice (some x) m c]).run P S=.ok (slice (some ⟨g,0,none⟩) (r.n+m) a) s /\
   aB s ⟨some ⟨g,0,none⟩,a⟩ ⟨r.e,r.size,r.n+m,r.xs++b⟩/\S.grownBy s h.XR/\(h.XR=some g∨S.heap.size<=g):=by
 rcases o.XO with ⟨p,w,E⟩ | ⟨g,y,p,w,E,e4,e5,e6⟩
 ·obtain⟨v',s,l,v,f,_⟩:=run_append_own (P:=P) S S.heap.size t C r.e i z r.size d F G U H V W X (slice none 0 0) 0 [] (Tw S _ r.e r.size) x m c b J I B (by omega) (by rw[w]at D;exact D) (Tp _);rcases v.2 with ⟨_,q⟩ | ⟨g,a,y,K,L,M,N,O,Q,R⟩
  ·omega
  ·refine⟨g,a,s,?_,⟨by have:=v.1;simpa [E,w] using this,TA ⟨g,a,y,by simp,Ub _,M,by simpa [w] using N,O,Q,by simpa [w,E] using R⟩⟩,?_,TA L⟩
   ·rw[p,w,l,K]
   ·rw[p];exact f
 ·by_cases Z:r.n+m<=h.cap
  ·obtain⟨s,l,v,f⟩:=run_append_fits (P:=P) S 0 t C r.e i r.size F G H g r.n h.cap r.xs (by have:=o;unfold aB at this;rw[p]at this;exact this) x m c b J I B Z;exact⟨g,h.cap,s,by rw[p,l],v,by unfold Hd.XR;rw[p];exact f,TG (by unfold Hd.XR;rw[p];rfl)⟩
  ·obtain⟨v',s,l,v,f⟩:=run_append_arg_grows (P:=P) S t C r.e i z r.size d F G U H V W X ⟨g,0,none⟩ r.n h.cap r.xs o.1 (by intro j u hj;rw[bX];exact o.cell p j u hj) x m c b J I (by omega) Y D;rcases v.2 with ⟨_,q⟩ | ⟨T,a,A,K,L,M,N,O,Q,R⟩
   ·omega
   ·exact⟨T,a,s,by rw[p,l,K],⟨v.1,TA ⟨T,a,A,rfl,Ub _,M,N,O,Q,R⟩⟩,⟨f.os,f.tape,f.output,f.size,fun k hk _=>f.block k hk (by simp)⟩,TA L⟩
theorem da{K:Act->World->Prop}{E:Prop}(N:s.guard=none)(y x:Operand)(t:TypeId)(v:s.op=Op.call { callee:=Callee.builtin Builtin.append,args:=#[y,x],argTypes:=#[t,t] })(i:TypeInfo)(z:Value)(b:Nat)(h:Hd)(r:eQ)(C:m.underlying t=some (.slice r.e))(D:m.info? r.e=some i)(F:i.zero=some z)(G:i.size=r.size)(H:i.bytes=b)(I:z.cells.size=r.size)(J:0<r.size)(Q:z5.eval y=slice h.ao r.n h.cap)(k:aB w h r)(p:Addr)(f c:Nat)(a:List Value)(S:z5.eval x=slice (some p) f c)(P:a.length=f*r.size)(M:∀j u,a[j]?=some u->w.cell? (p.add j)=some u)(q:∀u∈a,u.oneCell'=true)(O:0<f)(A:r.n+f<=maxLen)(B:(r.n+f)*b<=140737488355328)(L:∀g d o,aB o ⟨some ⟨g,0,none⟩,d⟩ ⟨r.e,r.size,r.n+f,r.xs++a⟩->w.grownBy o h.XR->(h.XR=some g∨w.heap.size<=g)->K (z5.put s.dst (slice (some ⟨g,0,none⟩) (r.n+f) d)) o) :
  if Region.wanted s (yielded y3 z5.tmps)=true then Oper.wp m s z5 w K y7 else E:=by
 have R:Region.wanted s (yielded y3 z5.tmps)=true:=by simp[Region.wanted,N]
 rw[Tq R];obtain⟨g,d,o,l,T,U,V⟩:=qU (P:=m) w t s.type i z b h r C D F G H I J k p f c a P M q O A B;unfold Oper.wp;simp[execOp,v,resolve,invoke,builtin,Q,S,l,Result.andThen];exact L g d o T U V
theorem dF{P:Program}(t e:TypeId)(i:TypeInfo)(z:Value)(f:P.underlying t=some (.slice e))(d:P.info? e=some i)(g:i.zero=some z)(n a:Nat)(b:i.size=a)(c:i.bytes*n<=281474976710656)(j:n<=1073741824) :
  (Instr.makeSlice t (int i64 n) (int i64 n)).run P S=.ok (slice (some ⟨S.heap.size,0,none⟩) n n) (S.alloc (.cells (madeCells z.cells (n*a)) e)):=by
 have:=run_make (P:=P) S t e i z f d g i64 i64 n n (by omega) (Wa _) (by have:=Int.ofNat_le.2 c;rw[Int.natCast_mul]at this;exact this) (by omega);simpa [b] using this
def jq(w:World)(x:Nat)(fs:Fs)(rep:Bool)(a b c:Value):Prop:=bO w x 80 fs [bool rep,a,b,c]
def PG:Value:=slice none 0 0
def kB(w:World)(x:Nat)(fs:Fs):Prop:=jq w x fs false PG PG PG
def lO(w:World)(x:Nat)(fs:Fs):Prop:=∃rep a b c,jq w x fs rep a b c
theorem kB.anyR{a:Fs}(h:kB w l a):lO w l a:=⟨_,_,_,_,h⟩
theorem jq.anyR{a:Fs}(h:jq w l a z6 i D M):lO w l a:=⟨_,_,_,_,h⟩
theorem kB.XQ{a:Fs}(h:kB w l a)(k:ae y w T)(b:l∉y):kB T l a:=bO.XQ h k b
theorem lO.XQ{d:Fs}(h:lO w l d)(k:ae y w T)(e:l∉y):lO T l d:=by
 obtain⟨r,a,b,c,h⟩:=h;exact⟨r,a,b,c,bO.XQ h k e⟩
theorem lO.lt{d:Fs}(h:lO w l d):l<w.heap.size:=by
 obtain⟨r,a,b,c,h⟩:=h;exact bO.lt h
theorem jq.cells{a:Fs}(h:jq w l a z6 i D M) :
  w.cell? ⟨l,9,none⟩=some (bool z6)/\w.cell? ⟨l,10,none⟩=some i/\w.cell? ⟨l,11,none⟩=some D/\w.cell? ⟨l,12,none⟩=some M:=by
 refine⟨?_,?_,?_,?_⟩ <;> (rw[ah h.1];rfl)
def Ev(w:World)(x:Nat)(rep:Bool)(a b c:Value):World:=(((w.setCell ⟨x,9,none⟩ (bool rep)).setCell ⟨x,10,none⟩ a).setCell ⟨x,11,none⟩ b).setCell ⟨x,12,none⟩ c
theorem jq.turn{e:Fs}(h:jq w l e z6 i D M)(a:Bool)(b c d:Value):jq (Ev w l a b c d) l e a b c d:=by
 refine⟨?_,h.2⟩;unfold Ev;rw[ab (ab (ab (ab h.1 9 (bool a)) 10 b) 11 c) 12 d];rfl
theorem GF(h:ae y w T)(d:l∈y∨w.heap.size<=l)(e:Bool)(a b c:Value):ae y w (Ev T l e a b c) :=
 (((h.setCell d _).setCell d _).setCell d _).setCell d _
theorem PE:Calls prog 28 #[] S fun e a=>e=returned (pointer (some ⟨S.heap.size,0,none⟩))/\kB a S.heap.size []/\ae [] S a:=by
 go_enter func28,ntmps28;go_wp2;go_ret;exact⟨rfl,⟨Ts _ _,by simp⟩,(ae.refl _ _).alloc _⟩
theorem xr(f:Fs)(w:World)(h:lO w H f) :
  Calls prog 34 #[pointer (some ⟨H,0,none⟩)] w fun e g=>e=returned (tuple #[])/\kB g H f/\ae [H] w g:=by
 obtain⟨l,a,b,c,h⟩:=h;obtain⟨m,i,j,k⟩:=h.cells;have n:=bO.free h;have d:Xr _:=h.turn false (slice none 0 0) (slice none 0 0) (slice none 0 0);unfold Ev at d;go_enter func34,ntmps34;go_wp2;go_end0;exact⟨rfl,d.o,GF (ae.refl _ _) (TG (by simp)) _ _ _ _⟩
theorem Oz(g:Fs)(w:World)(h:lO w x g)(y:f.size<=1073741824)(u:b.size<=4294967296) :
  Calls prog 15 #[pointer (some ⟨x,0,none⟩),string f,string b] w fun e p=>e=returned (int i64 (fI g f b).1)/\lO p x (fI g f b).2/\((fI g f b).1=0->kB p x (fI g f b).2)/\ae [x] w p:=by
 obtain⟨j,a,k,c,h⟩:=h;have q:=IK x 80 f b g [bool j,a,k,c] w h y u;have d:Xr _:=q;clear q;generalize fI g f b=z at *;obtain⟨t,l⟩:=z;simp only at d ⊢;cases v:(t==0)
 ·go_enter func15,ntmps15;go_wp2_with fail;refine Tr d.o ?_;rintro e s ⟨rfl,m,i⟩;go_wp2;go_ret;exact⟨rfl,⟨j,a,k,c,m⟩,fun e=>by subst e;simp at v,i⟩
 ·go_enter func15,ntmps15;go_wp2_with fail;refine Tr d.o ?_;rintro e s ⟨rfl,m,i⟩;go_wp2_with fail;refine(xr x l s ⟨j,a,k,c,m⟩).mono ?_;rintro e A ⟨rfl,r,n⟩;go_wp2;go_ret;exact⟨rfl,r.anyR,fun _=>r,i.trans n⟩
def dd(f:Nat->Int):Nat->Int
 | 0=>0
 | n+1=>if(dd f n==0)=true then f n else dd f n
theorem nf{n:Nat}(a:dd zt l=0)(h:(zt l==0)=false)(c:l<n):dd zt n=zt l:=by
 induction n with
 | zero=>omega
 | succ n b =>
  rw[dd];by_cases e:l=n
  ·subst e;rw[a];rfl
  ·rw[b (by omega),To (by rw[h];simp)]
def EL(fs:Fs)(i:Nat):Int:=if(dn (aG fs i) (ak fs i)==0)=false then dn (aG fs i) (ak fs i) else if 0<=bS (fs.take i) (aG fs i) then 4 else 0
def dS(fs:Fs):Int:=if 4<fs.length then 1 else dd (EL fs) fs.length
def jW(fs0 fs:Fs):Fs:=if dS fs=0 then fs else fs0
theorem qI{fs0 a:Fs}(h:dS a=y2)(b:y2≠0):jW fs0 a=fs0:=by unfold jW;rw[To (by rw[h];exact b)]
theorem z8{fs0 a:Fs}(h:dS a=0):jW fs0 a=a:=by unfold jW;rw[Tq h]
theorem Rm{n:Nat}(h:dd zt n=0):∀i,i<n->zt i=0:=by
 induction n with
 | zero=>intro i b;omega
 | succ n c =>
  rw[dd]at h;split at h
  ·next a =>
   intro i b;by_cases e:i=n
   ·rw[e];exact h
   ·exact c (Wg a) i (by omega)
  ·next a=>rw[h]at a;exact absurd rfl a
theorem PB{a:Fs}(h:dS a=0):a.length<=4/\∀j,j<a.length->(ak a j).size<=1024:=by
 unfold dS at h;split at h
 ·cases h
 ·refine⟨by omega,fun j c=>?_⟩;have b:=Rm h j c;unfold EL at b;split at b
  ·next e=>rw[b]at e;cases e
  ·next e =>
   unfold dn at e;split at e
   ·exact absurd rfl e
   ·split at e
    ·exact absurd rfl e
    ·omega
def mm(fs:Fs):Prop:=∀j,(aG fs j).size<=1073741824/\(ak fs j).size<=1073741824
theorem Bn:(prog.info? 68).map (fun i=>(i.zero,i.size,i.bytes))=some (some (agg #[string ⟨#[]⟩,string ⟨#[]⟩]),2,32):=by kernel_rfl
def QG(f:Xs×Xs):List Value:=[string f.1,string f.2]
def rS(fs:Fs):List Value:=fs.flatMap QG
def cW(fs:Fs):eQ:=⟨68,2,fs.length,rS fs⟩
theorem wI(a:Fs):(rS a).length=a.length*2:=by
 induction a with
 | nil=>rfl
 | cons t L b=>rw[rS,Uu,Tu,show L.flatMap QG=rS L from rfl,b];simp[QG];omega
theorem xA(b:Fs)(j:Nat)(h:j<b.length):(rS b)[j*2]?=some (string (aG b j))/\(rS b)[j*2+1]?=some (string (ak b j)):=by
 induction b generalizing j with
 | nil=>simp at h
 | cons a L f =>
  have e:rS (a :: L)=string a.1 :: string a.2 :: rS L:=rfl;cases j with
  | zero=>exact⟨rfl,rfl⟩
  | succ j =>
   obtain⟨c,d⟩:=f j (by simpa using h);rw[e,show(j+1)*2=j*2+1+1 by omega];exact⟨c,d⟩
theorem Ik(b:Fs)(k:Nat)(n d:Xs)(h:k<b.length):((rS b).set (k*2) (string n)).set (k*2+1) (string d)=rS (b.set k (n,d)):=by
 induction b generalizing k with
 | nil=>simp at h
 | cons a L c =>
  have e:∀x:Xs×Xs,rS (x :: L)=string x.1 :: string x.2 :: rS L:=fun _=>rfl;cases k with
  | zero=>rfl
  | succ k =>
   rw[Vh,show(k+1)*2=k*2+1+1 by omega,e];show _=string a.1 :: string a.2 :: rS (L.set k (n,d));rw[<-c k (by simpa using h)];rfl
theorem yw(a:Fs)(t:Xs×Xs):(⟨(cW a).e,(cW a).size,(cW a).n+1,(cW a).xs++QG t⟩:eQ)=cW (a++[t]):=by
 simp[cW,rS]
theorem Ij(a:Fs):∀u∈rS a,u.oneCell'=true:=by
 intro u b;obtain⟨x,-,h⟩:=VJ.1 b;unfold QG at h;simp only[List.mem_cons,List.not_mem_nil,or_false]at h;rcases h with rfl | rfl <;> rfl
structure It where
 B:Xv
 P:World->Prop
 lt:∀w,P w->∀b,b∈B->b<w.heap.size
 ok:∀S w w',P w->ae S w w'->(∀b,b∈B->b∉S)->P w'
def ed(I:Nat×Nat->It)(k:Nat×Nat)(it:It):Nat×Nat->It:=fun q=>if q=k then it else I q
theorem bA(I:Nat×Nat->It)(k:Nat×Nat)(a:It):ed I k a k=a:=by unfold ed;rw[Tq rfl]
theorem Tj(I:Nat×Nat->It){k q:Nat×Nat}(a:It)(h:q≠k):ed I k a q=I q:=by unfold ed;rw[To h]
theorem bm(h:l≠y4):((l,n):Nat×Nat)≠(y4,y5):=fun e=>h (by cases e;rfl)
theorem vg(h:n≠y5):((l,n):Nat×Nat)≠(y4,y5):=fun e=>h (by cases e;rfl)
structure ou(w:World)(I:Nat×Nat->It):Prop where
 all:∀k,(I k).P w
 far:∀k k',k≠k'->∀b,b∈(I k).B->b∉(I k').B
theorem ou.XD{I:Nat×Nat->It}(h:ou w I)(k:ae [] w T):ou T I :=
 ⟨fun q=>(I q).ok [] w T (h.all q) k (fun _ _ a=>by cases a),h.far⟩
theorem ou.put{I:Nat×Nat->It}(h:ou w I)(k:Nat×Nat)(d:It)(K:ae (I k).B w T)(m:d.P T)(l:∀b,b∈d.B->b∈(I k).B∨w.heap.size<=b):ou T (ed I k d):=by
 refine⟨fun q=>?_,fun q f i b a c=>?_⟩
 ·by_cases e:q=k
  ·subst e;rw[bA];exact m
  ·rw[Tj I d e];exact(I q).ok _ w T (h.all q) K (fun b a=>h.far q k e b a)
 ·by_cases e:q=k
  ·subst e;rw[bA]at a;rw[Tj I d (Ne.symm i)]at c;rcases l b a with g | g
   ·exact h.far q f i b g c
   ·have:=(I f).lt w (h.all f) b c;omega
  ·rw[Tj I d e]at a;by_cases j:f=k
   ·subst j;rw[bA]at c;rcases l b c with g | g
    ·exact h.far q f i b a g
    ·have:=(I q).lt w (h.all q) b a;omega
   ·rw[Tj I d j]at c;exact h.far q f i b a c
theorem ou.put2{I:Nat×Nat->It}(h:ou w I)(c d:Nat×Nat)(A:c≠d)(j k:It)(K:ae ((I c).B++(I d).B) w T)(D:j.P T)(E:k.P T)(y:∀b,b∈j.B->b∈(I c).B∨w.heap.size<=b)(z:∀b,b∈k.B->b∈(I d).B∨w.heap.size<=b)(u:∀b,b∈j.B->b∉k.B):ou T (ed (ed I c j) d k):=by
 have e:∀q,q≠c->q≠d->∀b,b∈(I q).B->b∉j.B/\b∉k.B:=fun q f a b m=>by
  have:=(I q).lt w (h.all q) b m;refine⟨fun x=>?_,fun x=>?_⟩
  ·rcases y b x with p | p
   ·exact h.far q c f b m p
   ·omega
  ·rcases z b x with p | p
   ·exact h.far q d a b m p
   ·omega
 have s:ed (ed I c j) d k c=j:=by rw[Tj _ _ A,bA]
 have t:ed (ed I c j) d k d=k:=bA _ _ _;have o:∀q,q≠c->q≠d->ed (ed I c j) d k q=I q:=fun q f a=>by rw[Tj _ _ a,Tj _ _ f]
 refine⟨fun q=>?_,fun q i r b f a=>?_⟩
 ·by_cases l:q=c
  ·subst l;rw[s];exact D
  ·by_cases g:q=d
   ·subst g;rw[t];exact E
   ·rw[o q l g];exact(I q).ok _ w T (h.all q) K (fun b m C=>(Uf.1 C).elim (h.far q c l b m) (h.far q d g b m))
 ·by_cases l:q=c
  ·subst l;rw[s]at f;by_cases g:i=d
   ·subst g;rw[t]at a;exact u b f a
   ·rw[o i (Ne.symm r) g]at a;exact(e i (Ne.symm r) g b a).1 f
  ·by_cases g:q=d
   ·subst g;rw[t]at f;by_cases n:i=c
    ·subst n;rw[s]at a;exact u b a f
    ·rw[o i n (Ne.symm r)]at a;exact(e i n (Ne.symm r) b a).2 f
   ·rw[o q l g]at f;by_cases n:i=c
    ·subst n;rw[s]at a;exact(e q l g b f).1 a
    ·by_cases v:i=d
     ·subst v;rw[t]at a;exact(e q l g b f).2 a
     ·rw[o i n v]at a;exact h.far q i r b f a
structure Tk where
 s:Xs
 X3:Int
 XY:Xs
 XZ:Int
 X0:Int
def Cs(t:Tk):List Value:=[string t.s,int i64 t.X3,string t.XY,int i64 t.XZ,int i64 t.X0]
def RN(L:List Tk):List Value:=L.flatMap Cs
def jh(L:List Tk):eQ:=⟨138,5,L.length,RN L⟩
theorem RG(L:List Tk)(j:Nat)(t:Tk)(h:L[j]?=some t)(c:Nat)(d:c<5):(RN L)[j*5+c]?=(Cs t)[c]?:=by
 induction L generalizing j with
 | nil=>cases h
 | cons a L b =>
  have e:RN (a :: L)=Cs a++RN L:=rfl;cases j with
  | zero =>
   simp at h;subst h;rw[e,TP (by simp[Cs];omega)];simp
  | succ j =>
   rw[e,TI (by simp[Cs];omega),show(j+1)*5+c-(Cs a).length=j*5+c by simp[Cs];omega];exact b j (by simpa using h)
theorem Aj(L:List Tk)(t:Tk):(⟨(jh L).e,(jh L).size,(jh L).n+1,(jh L).xs++Cs t⟩:eQ)=jh (L++[t]):=by
 simp[jh,RN]
def dI(d:Xs):Nat->Nat
 | 0=>0
 | i+1=>if dm (aI d i)=true then i+1 else dI d i
def m9(nm d:Xs)(s:Xs)(r:Int)(k:Nat):Tk:=⟨s,r,nm,aU d k,bJ d k⟩
def jN(nm d:Xs)(a z:Nat)(L:List Tk):List Tk:=if a=z then L else L++[m9 nm d (d.extract a z) 0 a]
def jM(nm d:Xs):Nat->List Tk
 | 0=>[]
 | i+1=>if dm (aI d i)=true then jN nm d (dI d i) i (jM nm d i) else jM nm d i
def rQ(n:Int):Bool:=!fU n && !dm n
def kc(d:Xs):Option Nat:=(List.range d.size).find? (fun i=>rQ (aI d i))
def iW(nm d:Xs):List Tk:=match kc d with
 | some i=>jM nm d i++[m9 nm d ⟨#[]⟩ 1 i]
 | none=>jN nm d (dI d d.size) d.size (jM nm d d.size)++[m9 nm d ⟨#[]⟩ 0 d.size]
theorem po(i:Nat):dI b i<=i:=by
 induction i with
 | zero=>exact Tp _
 | succ i a=>rw[dI];split <;> omega
theorem vG(L:List Tk):(jN f b v H L).length<=L.length+1:=by
 unfold jN;split <;> simp
theorem yV(i:Nat):(jM f b i).length<=i:=by
 induction i with
 | zero=>exact Tp _
 | succ i a =>
  rw[jM];split
  ·have:=vG f b (dI b i) i (jM f b i);omega
  ·omega
theorem AI:(iW f b).length<=b.size+2:=by
 unfold iW;split
 ·next i h =>
  have:=TF.1 (Ur h);have:=yV f b i;simp;omega
 ·have:=vG f b (dI b b.size) b.size (jM f b b.size);have:=yV f b b.size;simp;omega
def tn(s u:Xs)(i:Nat):Bool:=((s.extract i (i+u.size)).toList==u.toList)
def ii(s u:Xs):Bool:=(List.range (s.size+1)).any (fun i=>decide (i+u.size<=s.size)&&tn s u i)
def EK(t:Xs)(l:List UInt8):Bool:=(t.toList==l)
def bZ:Bool->List Tk->List Tk
 | _,[]=>[]
 | false,t :: r=>if EK t.s [36,40]=true then bZ true r else t :: bZ false r
 | true,t :: r =>
  if(t.X3==0)=false then t :: bZ true r
  else if EK t.s [36,41]=true then bZ false r
  else if EK t.s []=true then⟨⟨#[]⟩,3,t.XY,t.XZ,t.X0⟩ :: bZ true r
  else if(ii t.s ⟨#[36,40]⟩||ii t.s ⟨#[36,41]⟩)=true then [⟨⟨#[]⟩,2,t.XY,t.XZ,t.X0⟩]
  else bZ true r
theorem Mo(b:Bool)(L:List Tk):(bZ b L).length<=L.length:=by
 induction L generalizing b with
 | nil=>cases b <;> simp[bZ]
 | cons t L a =>
  have c:=a true;have d:=a false;cases b
  ·rw[bZ];split <;> simp <;> omega
  ·rw[bZ]
   repeat' split
   all_goals (simp;try omega)
def lC(w:World)(ao:Xu)(fs:Fs):Prop:=∀k,k<fs.length->∃g o,ao=some ⟨g,o,none⟩/\g<w.heap.size/\w.cell? ⟨g,o+k*2,none⟩=some (string (aG fs k))/\w.cell? ⟨g,o+k*2+1,none⟩=some (string (ak fs k))
theorem lC.XQ{a:Xu}{c:Fs}(h:lC w a c)(k:ae y w T)(m:∀b,a=some b->b.block∉y):lC T a c:=by
 intro j n;obtain⟨g,o,e,d,f,l⟩:=h j n;have q:∀i,T.cell? ⟨g,i,none⟩=w.cell? ⟨g,i,none⟩:=fun i=>TN (k.block g d (m _ e));exact⟨g,o,e,Tv d k.size,by rw[q];exact f,by rw[q];exact l⟩
theorem Pe(a:Fs)(k:Nat)(h:k<a.length):a.take k++[(aG a k,ak a k)]=a.take (k+1):=by
 rw[Wr,Tm h];unfold aG ak;rw[Tn,Tm h];rfl
def Eu(w:World)(v:Nat)(fs:Fs):World:=((((((((w.setCell ⟨v,0,none⟩ (string (aG fs 0))).setCell ⟨v,1,none⟩ (string (ak fs 0))).setCell ⟨v,2,none⟩ (string (aG fs 1))).setCell ⟨v,3,none⟩ (string (ak fs 1))).setCell ⟨v,4,none⟩ (string (aG fs 2))).setCell ⟨v,5,none⟩ (string (ak fs 2))).setCell ⟨v,6,none⟩ (string (aG fs 3))).setCell ⟨v,7,none⟩ (string (ak fs 3))).setCell ⟨v,8,none⟩ (int i64 fs.length)
theorem Og(c a:Fs)(b:List Value):(((((((((pR c++b).set 0 (string (aG a 0))).set 1 (string (ak a 0))).set 2 (string (aG a 1))).set 3 (string (ak a 1))).set 4 (string (aG a 2))).set 5 (string (ak a 2))).set 6 (string (aG a 3))).set 7 (string (ak a 3))).set 8 (int i64 a.length)=pR a++b:=rfl
theorem bO.over{b a:Fs}(h:bO w l n b L)(c:a.length<=4):bO (Eu w l a) l n a L:=by
 refine⟨?_,c⟩;unfold Eu;rw[ab (ab (ab (ab (ab (ab (ab (ab (ab h.1 0 _) 1 _) 2 _) 3 _) 4 _) 5 _) 6 _) 7 _) 8 _];simp only[List.setIfInBounds_toArray,Og]
theorem GE(h:ae y w T)(a:l∈y∨w.heap.size<=l)(b:Fs):ae y w (Eu T l b) :=
 ((((((((h.setCell a _).setCell a _).setCell a _).setCell a _).setCell a _).setCell a _).setCell a _).setCell a _).setCell a _
theorem bO.nine{a:Fs}(h:bO w l n a L) :
  w.cell? ⟨l,0,none⟩=some (string (aG a 0))/\w.cell? ⟨l,1,none⟩=some (string (ak a 0))/\w.cell? ⟨l,2,none⟩=some (string (aG a 1))/\w.cell? ⟨l,3,none⟩=some (string (ak a 1))/\w.cell? ⟨l,4,none⟩=some (string (aG a 2))/\w.cell? ⟨l,5,none⟩=some (string (ak a 2))/\w.cell? ⟨l,6,none⟩=some (string (aG a 3))/\w.cell? ⟨l,7,none⟩=some (string (ak a 3))/\w.cell? ⟨l,8,none⟩=some (int i64 a.length):=by
 refine⟨?_,?_,?_,?_,?_,?_,?_,?_,?_⟩ <;> (rw[ah h.1];rfl)
set_option maxRecDepth 100000
theorem J2(b a:Fs)(c:List Value)(X:Xu)(Y:Nat)(w:World)(h:bO w v H b c)(hS:lC w X a)(I:mm a) :
  Calls prog 49 #[pointer (some ⟨v,0,none⟩),slice X a.length Y] w fun e j=>e=returned (int i64 (dS a))/\bO j v H (jW b a) c/\ae [v] w j:=by
 have J:Xr (bO w v H b c):=h;by_cases h4:4<a.length
 ·have A:Xr (dS a=1):=by show _=_;unfold dS;rw[Tq h4]
  have P:Xr _:=(qI (fs0:=b) A.o (by decide));rw[A.o];have ac:(4:Int)<a.length:=by omega
  clear h;go_enter func49,ntmps49;go_wp2;go_ret;exact⟨rfl,by rw[P.o];exact J.o,ae.refl _ _⟩
 ·have A:Xr (dS a=dd (EL a) a.length):=by show _=_;unfold dS;rw[To h4]
  obtain⟨r,K⟩:=bn (dS a);rw[K.o]at A ⊢;have ac:¬(4:Int)<a.length:=by omega
  have HS:Xr (lC w X a):=hS;have D:Xr _:=I;obtain⟨W,R⟩:=bn (w.alloc (.cells #[string ⟨#[]⟩,string ⟨#[]⟩,string ⟨#[]⟩,string ⟨#[]⟩,string ⟨#[]⟩,string ⟨#[]⟩,string ⟨#[]⟩,string ⟨#[]⟩,int i64 0] 73));have O:Xr _:=fH R.o;have Q:Xr (bO W w.heap.size 73 (a.take 0) []):=by show bO _ _ _ _ _;rw[<-R.o];exact⟨Ts _ _,by simp⟩
  clear h hS I;go_enter func49,ntmps49;go_upto_region 4 with fail
  rw[R.o];go_wp2
  go_loopg [6] a.length (fun g iv wr=>∃k:Nat,k<=a.length/\g=a.length-k/\iv=int i64 k/\Xr (dd (EL a) k=0)/\Xr (bO wr w.heap.size 73 (a.take k) [])/\Xr (ae [] w wr))
  ·exact⟨0,by omega,rfl,rfl,rfl,Q,O⟩
  obtain⟨k,hk,hg,rfl,T,y,t⟩:=hrel;rcases kn k a.length with ⟨m,an⟩ | ⟨m,-⟩
  ·obtain⟨F,o0,rfl,s,c0,c1⟩:=(lC.XQ HS.o t.o (by simp)) k m;have HC:Xr (∀j,ae [] wr j->j.cell? ⟨F,o0+k*2,none⟩=some (string (aG a k))/\j.cell? ⟨F,o0+k*2+1,none⟩=some (string (ak a k))/\F<j.heap.size):=fun j kw=>⟨by rw[TN (kw.block F s (by simp))];exact c0,by rw[TN (kw.block F s (by simp))];exact c1,Tv s kw.size⟩
   have B:Xr (∀d,Calls prog 50 #[string (aG a k),string (ak a k)] d fun e j=>e=returned (int i64 (dn (aG a k) (ak a k)))/\j=d):=fun d=>oO _ _ d (D.o k).1 (by have:=(D.o k).2;omega);have u:Xr (∀d,bO d w.heap.size 73 (a.take k) []->Calls prog 51 #[pointer (some ⟨w.heap.size,0,none⟩),string (aG a k)] d fun e j=>e=returned (int i64 (bS (a.take k) (aG a k)))/\j=d):=fun d hx=>mu _ _ _ _ _ d hx;have hl:(a.take k).length=k:=(by rw[UI];omega);have M:Xr (∀d,bO d w.heap.size 73 (a.take k) []->Calls prog 52 #[pointer (some ⟨w.heap.size,0,none⟩),agg #[string (aG a k),string (ak a k)]] d fun e j=>e=returned (tuple #[])/\bO j w.heap.size 73 (a.take (k+1)) []/\ae [w.heap.size] d j):=fun d hx=>by
    rw[<-Pe a k m];exact Hh _ _ _ _ _ _ d hx (by rw[hl];omega)
   have l:Xr (EL a k=if(dn (aG a k) (ak a k)==0)=false then dn (aG a k) (ak a k) else if 0<=bS (a.take k) (aG a k) then 4 else 0):=rfl;have C:Xr ((EL a k==0)=false->r=EL a k):=fun q=>by rw[A.o];exact nf T.o q m
   have N:Xr (EL a k=0->dd (EL a) (k+1)=0):=fun q=>by rw[dd,T.o];exact q
   clear hl;generalize aG a k=nm at *;generalize ak a k=dt at *;obtain⟨Z,U⟩:=bn (dn nm dt);rw[U.o]at B l;obtain⟨fi,V⟩:=bn (bS (a.take k) nm);rw[V.o]at u l;(go_upto_region 7 with fail);go_region_with (go_at_call 50;refine(B.o _).mono ?_;rintro e L ⟨rfl,ai⟩)
   all_goals
    subst ai;obtain⟨L,H9⟩:=bn (wr.drew);rw[H9.o];have f:Xr (ae [] wr L):=by show ae _ _ _;rw[<-H9.o];exact(ae.refl [] wr).drew
    clear c0 c1 s;cases i:(Z==0)
    ·rw[i,Tq rfl]at l;have p:Xr _:=(C.o (by rw[l.o];exact i));rw[l.o]at p;have ad:(Z != 0)=true:=(by unfold bne;rw[i];rfl);go_wp2;go_ret;exact⟨au p.o.symm,by rw[qI (K.o.trans p.o) (fun q=>by rw[q]at i;cases i)];exact bO.XQ J.o (t.o.trans f.o) (by simp),(t.o.trans f.o).mono (by simp)⟩
    ·rw[i,To (by simp)]at l;have ad:(Z != 0)=false:=(by unfold bne;rw[i];rfl);obtain⟨d0,d1,d2⟩:=HC.o L f.o;have x:Xr (bO L w.heap.size 73 (a.take k) []):=bO.XQ y.o f.o (by simp);by_cases G:0<=fi
     ·rw[Tq G]at l;have p:Xr _:=(C.o (by rw[l.o];rfl));rw[l.o]at p;go_wp2_with (go_at_call 51;refine(u.o _ x.o).mono ?_;rintro e w8 ⟨rfl,n⟩;rw[n];clear n);go_ret;exact⟨au p.o.symm,by rw[qI (K.o.trans p.o) (by decide)];exact bO.XQ J.o (t.o.trans f.o) (by simp),(t.o.trans f.o).mono (by simp)⟩
     ·rw[To G]at l;have HM:Xr _:=N.o l.o;(go_upto_region 12 with (go_at_call 51;refine(u.o _ x.o).mono ?_;rintro e w8 ⟨rfl,n⟩;rw[n];clear n));go_wp2_with (go_at_call 52;refine(M.o _ x.o).mono ?_;rintro e w8 ⟨rfl,ag,af⟩);go_roundg (a.length-(k+1))
      ·exact⟨k+1,by omega,rfl,by go_num,HM,ag,((t.o.trans f.o).mono (S':=[w.heap.size]) (by simp)).trans af |>.mono (fun q hq m=>by simp at hq;omega)⟩
      omega
  ·have e:k=a.length:=(by omega);subst e;have p:Xr (r=0):=cg (by rw[A.o];exact T.o);have ap:¬(a.length:Int)<a.length:=by omega
   rw[UN]at y;obtain⟨q0,q1,q2,q3,q4,q5,q6,q7,q8⟩:=bO.nine y.o;have z:Xr (bO wr v H b c):=bO.XQ J.o t.o (by simp);obtain⟨p0,p1,p2,p3,p4,p5,p6,p7,p8⟩:=bO.nine z.o;have al:=bO.free z.o;have E:Xr (bO (Eu wr v a) v H a c):=bO.over z.o (by omega);unfold Eu at E;have S:Xr _:=z8 (fs0:=b) (K.o.trans p.o);go_wp2;go_ret;exact⟨au p.o.symm,by rw[S.o];exact E.o,GE (t.o.mono (by simp)) (TG (by simp)) _⟩
def SJ(w':World)(x:Nat)(fs0 fs:Fs)(rep:Bool)(a b c:Value):Prop:=(dS fs=0->kB w' x (jW fs0 fs))/\(dS fs≠0->jq w' x (jW fs0 fs) rep a b c)
set_option maxRecDepth 512
theorem LE(d g:Fs)(f:Bool)(a b c:Value)(l:Xu)(k:Nat)(w:World)(h:jq w H d f a b c)(x:lC w l g)(r:mm g) :
  Calls prog 31 #[pointer (some ⟨H,0,none⟩),slice l g.length k] w fun e s=>e=returned (int i64 (dS g))/\SJ s H d g f a b c/\ae [H] w s:=by
 unfold SJ;have j:Xr _:=J2 H 80 d g [bool f,a,b,c] l k w h x r;generalize dS g=u at *;generalize jW d g=m at *;cases p:(u==0)
 ·go_enter func31,ntmps31;go_wp2_with (go_at_call 49;refine Tr j.o ?_;rintro e t ⟨rfl,n,i⟩);go_ret;exact⟨rfl,⟨(fun e=>by rw[e]at p;cases p),fun _=>n⟩,i⟩
 ·go_enter func31,ntmps31;go_upto_region 3 with (go_at_call 49;refine Tr j.o ?_;rintro e t ⟨rfl,n,i⟩)
  go_wp2_with (go_at_call 34;refine(xr H m t ⟨f,a,b,c,n⟩).mono ?_;rintro e y ⟨rfl,v,q⟩);go_ret;exact⟨rfl,⟨fun _=>v,fun e=>absurd (Wg p) e⟩,i.trans q⟩
theorem Qw(g:Fs)(d:Bool)(a j c:Value)(w:World)(h:jq w x g d a j c)(s:f.size<=1073741824)(r:b.size<=4294967296)(l:(fI g f b).1≠0) :
  Calls prog 15 #[pointer (some ⟨x,0,none⟩),string f,string b] w fun e m=>e=returned (int i64 (fI g f b).1)/\jq m x (fI g f b).2 d a j c/\ae [x] w m:=by
 have i:Xr _:=IK x 80 f b g [bool d,a,j,c] w h s r;generalize fI g f b=t at *;obtain⟨n,p⟩:=t;simp only at i l ⊢;have u:(n==0)=false:=TT.2 l;clear l;go_enter func15,ntmps15;go_wp2_with (go_at_call 33;refine Tr i.o ?_;rintro e v ⟨rfl,q,k⟩);go_ret;exact⟨rfl,q,k⟩
theorem ED(f:Fs)(n:Xs)(d:Bool)(a b c:Value)(w:World)(h:jq w H f d a b c)(A:bS f n<0) :
  Calls prog 37 #[pointer (some ⟨H,0,none⟩),string n] w fun e k=>e=returned (tuple #[agg #[int i64 0,string ⟨#[]⟩,int i64 0,int i64 0],int i64 5])/\jq k H f d a b c/\ae [H] w k:=by
 obtain⟨W,p⟩:=bn (w.alloc (.cells #[int i64 0,string ⟨#[]⟩,int i64 0,int i64 0] 87));have m:Xr _:=fH p.o;have q:=f8 p.o;have r:jq W H f d a b c:=bO.XQ h m.o (by simp);obtain⟨z,i⟩:=bn (bS f n);rw[i.o]at A;have l:Xr (Calls prog 51 #[pointer (some ⟨H,0,none⟩),string n] W fun e k=>e=returned (int i64 z)/\k=W):=by
  show Calls _ _ _ _ _;rw[<-i.o];exact mu H _ f _ n W r
 obtain⟨B,C,D,E⟩:=CJ q;have G:=am q;have g:Xr (∀s t u x,ae [] w ((((W.setCell ⟨w.heap.size,0,none⟩ s).setCell ⟨w.heap.size,1,none⟩ t).setCell ⟨w.heap.size,2,none⟩ u).setCell ⟨w.heap.size,3,none⟩ x)):=fun s t u x=>(((m.o.sr1 (Tp _) _).sr1 (Tp _) _).sr1 (Tp _) _).sr1 (Tp _) _;have y:Xr (jq w H f d a b c):=h;clear h r q m;go_enter func37,ntmps37;go_upto_region 1 with fail
 rw[p.o];go_wp2_with (go_at_call 51;refine Tr l.o ?_;rintro e F ⟨rfl,j⟩;rw[j];clear j);exact Ty (v:=tuple #[agg #[int i64 0,string ⟨#[]⟩,int i64 0,int i64 0],int i64 5]) (by simp[results,results37,go_sem,B,C,D,E]) rfl ⟨rfl,bO.XQ y.o (g.o _ _ _ _) (by simp),(g.o _ _ _ _).mono (by simp)⟩
end Go.Proofs.YtnbhnocdhbcbcaaGreat
