import Derived.Test.YtnbalopedcgpcaaGreatChecked
import Derived.WalkKit
import Derived.WalkSpells
import Derived.WalkLawsBesides
import Derived.Deep.QuietTactic
import Derived.BigQuiet
import Derived.Deep.LoopGhost
import Derived.Laws.CopyRow
import Derived.Laws.MakeOwn
import Derived.Deep.RegionLaw
namespace Go.Proofs.YtnbalopedcgpcaaGreat
open Go.RowKit Tryz
open Value IntKind Ending
set_option linter.all false
set_option maxHeartbeats 0
abbrev Vq:=ByteArray
abbrev Vs:=List ByteArray
abbrev Vt:=Option Addr
abbrev Vu:=List Nat
variable{i:Vu}{w y:World}{l n:Nat}{N:Array Value}{z3:Obj}{M:Program}{D g s A z2 z5:Value}{z1:Bool}{q I:Vq}{z6:Ending->World->Prop}{u:List Value}{z7:Array Oper}{z:Oper}{z0:Act}{z8:Exit->Act->World->Prop}(m:Vq)(L d:Nat)(x H:Vq)(z4:Int)(T:World)(f:Nat)
def Z(p:Prop):Prop:=p
theorem Z.o{p:Prop}(h:Z p):p:=h
abbrev Vv:=@List.getElem?_eq_getElem
abbrev Vx:=@List.length_append
abbrev Vy:=@Nat.le_refl
abbrev Vz:=@List.getD_eq_getElem?_getD
abbrev VB:=@Go.heap_alloc_new
abbrev VC:=@ByteArray.size_append
abbrev VD:=@List.mem_range
abbrev VG:=@List.mem_append
abbrev VH:=@Or.inr
abbrev VI:=@if_neg
abbrev VJ:=@List.length_map
abbrev VK:=@List.mem_map
abbrev VL:=@Nat.one_pos
abbrev VN:=@Go.RowKit.Below.heap_setCell
abbrev VO:=@List.mem_singleton
abbrev VP:=@Go.Calls.mono
abbrev VQ:=@if_pos
abbrev VR:=@Or.inl
abbrev VS:=@Go.World.ownsRow_nil
abbrev VT:=@List.getElem?_eq_some_iff
abbrev VU:=@List.map_append
abbrev VV:=@Go.bodyPost_ret
abbrev VW:=@Nat.lt_of_lt_of_le
abbrev VX:=@List.getElem?_map
abbrev VY:=@ByteArray.data_append
abbrev VZ:=@List.getElem_mem
abbrev V0:=@List.getElem?_append_left
abbrev V9:=@Nat.le_trans
abbrev Wa:=@List.mem_cons
abbrev Wb:=@Option.some.inj
abbrev Wc:=@Go.ByteArray.toList_eq
abbrev We:=@List.getElem?_append_right
abbrev Wf:=@List.flatMap_cons
abbrev Wg:=@List.append_assoc
abbrev Wh:=@Go.info_parts
abbrev Wi:=@beq_eq_false_iff_ne
abbrev Wj:=@List.drop_eq_getElem_cons
abbrev Wk:=@Go.Calls.quiet_of_same
abbrev Wl:=@List.not_mem_nil
abbrev Wm:=@List.map_congr_left
abbrev Wn:=@List.mem_append_left
abbrev Wo:=@Nat.mul_le_mul_right
abbrev Wp:=@List.map_cons
abbrev Wq:=@Bool.false_eq_true
abbrev Wr:=@List.map_map
abbrev Ws:=@List.length_cons
abbrev Wt:=@List.take_succ_eq_append_getElem
abbrev Wu:=@List.nil_append
abbrev Ww:=@List.all_eq_true
abbrev Wx:=@List.eq_nil_of_length_eq_zero
abbrev Wy:=@Bool.and_eq_true
abbrev Wz:=@List.mem_cons_of_mem
abbrev WB:=@List.filter_append
abbrev WC:=@List.mem_filter
abbrev WD:=@Nat.zero_le
abbrev WE:=@List.mem_of_getElem?
abbrev WF:=@Array.toList_append
abbrev WG:=@List.range_succ
abbrev WH:=@List.append_nil
abbrev WJ:=@List.length_singleton
abbrev WK:=@List.flatMap_append
abbrev WL:=@List.mem_map_of_mem
abbrev WM:=@List.mem_append_right
abbrev WN:=@List.take_length
abbrev WO:=@List.drop_of_length_le
abbrev WP:=@List.mem_or_eq_of_mem_set
abbrev WQ:=@Go.IntKind.wrap_i64
abbrev WR:=@ByteArray.size_extract
abbrev WS:=@List.getElem_of_mem
abbrev WT:=@List.length_range
abbrev WU:=@List.cons.inj
abbrev WV:=@List.mem_filterMap
abbrev WW:=@ByteArray.getElem_eq_getElem_data
abbrev WX:=@decide_eq_false
abbrev WY:=@List.setIfInBounds_toArray
abbrev WZ:=@List.ext_getElem?
abbrev W0:=@LawfulBEq.eq_of_beq
abbrev W1:=@List.cons_append
abbrev Xa:=@List.length_set
abbrev Xb:=@or_false
abbrev Xc:=@List.flatMap_singleton
abbrev Xd:=@List.map_eq_cons_iff
abbrev Xe:=@List.mem_flatMap
abbrev Xf:=@List.length_drop
abbrev Xg:=@List.length_filter_le
abbrev Xh:=@Nat.add_sub_cancel_left
abbrev Xi:=@List.filterMap_cons
abbrev Xj:=@Nat.add_assoc
abbrev Xk:=@List.map_singleton
abbrev Xl:=@List.getElem?_eq_none
abbrev Xm:=@Bool.eq_iff_iff
abbrev Xn:=@List.foldl_cons
abbrev Xo:=@List.foldl_append
abbrev Xp:=@Go.World.cell?_of_block
abbrev Xq:=@beq_self_eq_true
abbrev Xr:=@List.filterMap_append
abbrev Xs:=@if_false
abbrev Xt:=@List.filter_congr
abbrev Xu:=@List.nodup_append
abbrev Xv:=@List.filter_cons_of_pos
abbrev Xw:=@Go.wp_loop_rounds
abbrev Xx:=@List.mem_of_mem_drop
abbrev Xy:=@List.take_of_length_le
abbrev Xz:=@if_true
abbrev XA:=@Go.size_madeCells
abbrev XB:=@Nat.add_zero
abbrev XC:=@List.getElem?_cons_succ
abbrev XD:=@List.getElem?_cons_zero
abbrev XE:=@Nat.mul_le_mul
abbrev XF:=@ByteArray.append_assoc
abbrev XG:=@List.pairwise_lt_range
abbrev XH:=@List.getElem?_range
abbrev XI:=@List.mem_of_find?_eq_some
abbrev XJ:=@ByteArray.getElem_extract
abbrev XK:=@Classical.choose_spec
abbrev XL:=@List.length_take
abbrev XM:=@beq_iff_eq
abbrev XN:=@Nat.zero_add
abbrev XO:=@Nat.lt_succ_iff_lt_or_eq
abbrev XP:=@Go.rounds_succ
abbrev XQ:=@List.drop_append_of_le_length
abbrev XR:=@decide_eq_true_eq
abbrev XS:=@Int.eq_ofNat_of_zero_le
abbrev XT:=@Int.toNat_natCast
abbrev XU:=@List.filter_cons_of_neg
abbrev XV:=@List.length_nil
abbrev XW:=@Bool.or_eq_true
abbrev XY:=@List.length_pos_iff
abbrev XZ:=@Nat.sub_self
abbrev X0:=@List.any_eq_true
abbrev X7:=@List.flatMap_map
abbrev X8:=@List.filterMap_nil
abbrev X9:=@List.drop_left
abbrev Ya:=@List.mem_cons_self
abbrev Yb:=@List.contains_iff_mem
abbrev Yc:=@List.extract_eq_take_drop
abbrev Yd:=@Nat.lt_or_ge
abbrev Ye:=@List.all_cons
abbrev Yf:=@ByteArray.getElem_append_left
abbrev Yg:=@List.append_eq_nil_iff
abbrev Yh:=@List.getElem?_dropLast
abbrev Yi:=@List.find?_eq_none
abbrev Yj:=@ByteArray.data_extract
abbrev Yk:=@List.filter_nil
abbrev Yl:=@List.map_take
abbrev Ym:=@List.take_append_drop
abbrev Yn:=@ByteArray.ext_getElem
abbrev Yo:=@Array.toList_setIfInBounds
abbrev Yp:=@List.getElem?_of_mem
abbrev Yq:=@List.foldl_nil
abbrev Yr:=@List.mem_of_mem_take
abbrev Ys:=@Bool.or_eq_false_iff
abbrev Yt:=@List.pairwise_append
abbrev Yu:=@decide_eq_true
abbrev Yv:=@Array.toList_extract
abbrev Yw:=@List.map_nil
abbrev Yx:=@List.nodup_range
abbrev Yy:=@Nat.succ_mul
abbrev Yz:=@List.getElem_map
abbrev YA:=@List.getD_cons_succ
abbrev YB:=@List.length_filterMap_le
abbrev YC:=@ByteArray.ext
abbrev YD:=@List.mem_of_mem_eraseIdx
abbrev YE:=@List.filter_map
abbrev YF:=@List.set_cons_succ
abbrev YG:=@List.set_cons_zero
abbrev YH:=@Nat.lt_or_gt_of_ne
abbrev YI:=@List.prefix_append
abbrev YJ:=@Nat.succ_pos
abbrev YK:=@List.map_set
abbrev YL:=@List.filter_eq_nil_iff
abbrev YM:=@List.map_eq_append_iff
abbrev YN:=@List.any_eq_false
abbrev YO:=@List.pairwise_map
abbrev YP:=@List.prefix_of_prefix_length_le
abbrev YQ:=@List.singleton_append
abbrev YR:=@List.flatMap_def
abbrev YS:=@ByteArray.getElem_append_right
abbrev YT:=@List.getLast?_eq_some_getLast
abbrev YU:=@List.dropLast_subset
abbrev YV:=@Array.getElem_toList
abbrev YW:=@List.find?_some
abbrev YX:=@Option.map_some
abbrev YY:=@List.any_append
abbrev YZ:=@List.countP_eq_length_filter
abbrev Y0:=@List.prefix_append_right_inj
abbrev Y1:=@Array.length_toList
abbrev Y2:=@List.drop_succ_cons
abbrev Y3:=@Nat.zero_mul
abbrev Y4:=@List.take_length_add_append
abbrev Y5:=@Go.World.grownBy.refl
abbrev Y6:=@List.getElem?_drop
abbrev Y7:=@List.pairwise_cons
abbrev Y8:=@Int.tmod_lt_of_pos
abbrev Y9:=@List.drop_take
abbrev Za:=@List.take_left
abbrev Zb:=@List.filterMap_eq_nil_iff
abbrev Zc:=@List.sublist_append_right
abbrev Zd:=@Nat.le_succ
abbrev Ze:=@Bool.not_eq_true'
abbrev Zf:=@Nat.lt_trichotomy
abbrev Zg:=@List.take_set
abbrev Zh:=@Bool.true_and
abbrev Zi:=@Bool.false_or
abbrev Zj:=@Array.getElem_mem_toList
abbrev Zk:=@List.Pairwise.imp_of_mem
abbrev Zl:=@List.sublist_append_left
abbrev Zm:=@List.ext_getElem
abbrev Zn:=@List.getElem_inj
abbrev Zo:=@List.pairwise_singleton
abbrev Zp:=@and_self
abbrev Zq:=@List.drop_append
abbrev Zr:=@List.zipIdx_cons
abbrev Zs:=@Nat.le_of_eq
abbrev Zt:=@Bool.true_or
abbrev Zu:=@Bool.or_true
abbrev Zv:=@List.map_id'
abbrev Zw:=@Go.run_append_fits
abbrev Zx:=@Int.tmod_nonneg
abbrev Zy:=@List.nodup_cons
abbrev Zz:=@List.countP_map
abbrev ZA:=@List.all_append
abbrev ZB:=@Go.run_underlying
abbrev ZC:=@List.nodup_nil
abbrev ZD:=@List.take_zero
abbrev ZE:=@List.range_add
abbrev ZF:=@List.drop_zero
abbrev ZG:=@List.map_drop
abbrev ZH:=@Bool.or_false
abbrev Fs:=List (ByteArray×ByteArray)
structure aa(S:Vu)(w w':World):Prop where
 os:w'.os=w.os
 tape:w'.tape=w.tape
 output:w'.output=w.output
 size:w.heap.size<=w'.heap.size
 block:∀k,k<w.heap.size->k∉S->w'.heap[k]?=w.heap[k]?
theorem aa.refl(S:Vu)(w:World):aa S w w:=⟨rfl,rfl,rfl,Vy _,λ_ _ _=>rfl⟩
theorem aa.trans{c:World}(h:aa i w y)(k:aa i y c):aa i w c :=
 ⟨k.os.trans h.os,k.tape.trans h.tape,k.output.trans h.output,V9 h.size k.size,
  λd a b=>(k.block d (VW a h.size) b).trans (h.block d a b)⟩
theorem aa.mono{S':Vu}(h:aa i w y)(b:∀k,k∈i->k<w.heap.size->k∈S'):aa S' w y :=
 ⟨h.os,h.tape,h.output,h.size,λk a c=>h.block k a (by grind)⟩
theorem aa.drew(h:aa i w y):aa i w y.drew:=⟨h.os,h.tape,h.output,h.size,h.block⟩
theorem aa.drewN(h:aa i w y)(n:Nat):aa i w (y.drewN n):=⟨h.os,h.tape,h.output,h.size,h.block⟩
theorem aa.alloc(h:aa i w y)(o:Obj):aa i w (y.alloc o) :=
 h.trans ⟨rfl,rfl,rfl,by simp,λk a _=>Below.heap_alloc _ _ _ a⟩
theorem aa.setCell(h:aa i w y){p:Addr}(c:p.block∈i∨w.heap.size<=p.block)(u:Value):aa i w (y.setCell p u) :=
 ⟨h.os,h.tape,h.output,by have:=h.size;simp_all,λk a b=>by
  rw[VN _ _ _ _ (by grind)];exact h.block k a b⟩
theorem ar(h:w.heap[l]?=some (.cells N n))(i:Nat):w.cell? ⟨l,i,none⟩=N[i]?:=by unfold World.cell?;simp[h]
theorem ay(h:w.heap[l]?=some (.cells N n))(i:Nat):w.frozen? ⟨l,i,none⟩=false:=by unfold World.frozen?;simp[h]
theorem ab(h:w.heap[l]?=some (.cells N n))(i:Nat)(u:Value) :
  (w.setCell ⟨l,i,none⟩ u).heap[l]?=some (.cells (N.setIfInBounds i u) n):=by simp[World.setCell,Array.getElem?_modify,h]
theorem am(h:w.heap[l]?=some z3):l<w.heap.size:=by grind
theorem oW{f:FuncId}(h:Calls M f N (w.drewN (l+n)) λe a=>e=returned D/\a=w.drewN (l+n)) :
  Calls M f N (w.drewN (l+n)) λe a=>e=returned D/\∃c,a=w.drewN (l+c) :=
 h.mono λ_ _ b=>⟨b.1,n,b.2⟩
theorem aT{b:Bool}(h:z1=b):Ending.returned (bool z1)=returned (bool b):=by rw[h]
theorem aB{k:IntKind}{a b:Int}(h:a=b):Ending.returned (int k a)=returned (int k b):=by rw[h]
theorem dN{a b:Vq}(h:a.toList=b.toList):a=b:=by rw[Wc,Wc]at h;cases a;simp_all
theorem GZ(h:(q.toList==I.toList)=true):q=I:=dN (by grind)
theorem xM(h:w.heap[l]?=some (.cells #[D,g] n)):w.cell? ⟨l,0,none⟩=some D/\w.cell? ⟨l,1,none⟩=some g :=
 ⟨ar h _,ar h _⟩
theorem Cu(h:w.heap[l]?=some (.cells #[D,g,s] n)):w.cell? ⟨l,0,none⟩=some D/\w.cell? ⟨l,1,none⟩=some g/\w.cell? ⟨l,2,none⟩=some s :=
 ⟨ar h _,ar h _,ar h _⟩
theorem zaV(h:w.heap[l]?=some (.cells #[D,g,s,A] n)):w.cell? ⟨l,0,none⟩=some D/\w.cell? ⟨l,1,none⟩=some g/\w.cell? ⟨l,2,none⟩=some s/\w.cell? ⟨l,3,none⟩=some A :=
 ⟨ar h _,ar h _,ar h _,ar h _⟩
theorem In(h:w.heap[l]?=some (.cells #[D,g,s,A,z2] n)):w.cell? ⟨l,0,none⟩=some D/\w.cell? ⟨l,1,none⟩=some g/\w.cell? ⟨l,2,none⟩=some s/\w.cell? ⟨l,3,none⟩=some A/\w.cell? ⟨l,4,none⟩=some z2 :=
 ⟨ar h _,ar h _,ar h _,ar h _,ar h _⟩
theorem zcg(h:w.heap[l]?=some (.cells #[D,g,s,A,z2,z5] n)):w.cell? ⟨l,0,none⟩=some D/\w.cell? ⟨l,1,none⟩=some g/\w.cell? ⟨l,2,none⟩=some s/\w.cell? ⟨l,3,none⟩=some A/\w.cell? ⟨l,4,none⟩=some z2/\w.cell? ⟨l,5,none⟩=some z5 :=
 ⟨ar h _,ar h _,ar h _,ar h _,ar h _,ar h _⟩
theorem ut{a b:Value}(h:w.heap[l]?=some (.cells #[D,g,s,A,z2,z5,a,b] n)):w.cell? ⟨l,0,none⟩=some D/\w.cell? ⟨l,1,none⟩=some g/\w.cell? ⟨l,2,none⟩=some s/\w.cell? ⟨l,3,none⟩=some A/\w.cell? ⟨l,4,none⟩=some z2/\w.cell? ⟨l,5,none⟩=some z5/\w.cell? ⟨l,6,none⟩=some a/\w.cell? ⟨l,7,none⟩=some b :=
 ⟨ar h _,ar h _,ar h _,ar h _,ar h _,ar h _,ar h _,ar h _⟩
theorem kD(h:w.alloc (.cells N l)=y):y.heap[w.heap.size]?=some (.cells N l):=by rw[<-h];exact VB ..
theorem iV(h:w.alloc (.cells N l)=y):aa [] w y:=by rw[<-h];exact(aa.refl [] _).alloc _
theorem bN:aa [] w w:=aa.refl [] w
theorem aa.sl1(h:aa (l :: i) w y)(v:Value):aa (l :: i) w (y.setCell ⟨l,n,none⟩ v):=h.setCell (VR (by simp)) v
theorem aa.sr1(h:aa i w y)(a:w.heap.size<=l)(v:Value):aa i w (y.setCell ⟨l,n,none⟩ v):=h.setCell (VH a) v
theorem kn:(d<f/\(d:Int)<(f:Int))∨(¬d<f/\¬(d:Int)<(f:Int)):=by omega
theorem bX{α:Type}(e:α):∃x,Z (e=x):=⟨_,rfl⟩
theorem dL{p:Prop}(h:p):Z p:=h
theorem ot{t:Nat}(B:w.heap[l]?=some (.cells N t))(h:N[n]?=some D):w.cell? ⟨l,n,none⟩=some D:=by rwa [ar B]
theorem Mn{a:Addr}(h:y.heap[a.block]?=w.heap[a.block]?)(c:w.cell? a=some D):y.cell? a=some D:=by rwa [Xp h]
theorem ia(H:Calls M l N w (λe a=>e=returned D/\a=w))(k:z6 (returned D) w):Calls M l N w z6:=VP H (by grind)
theorem gO{R:World->Prop}(H:Calls M l N w (λe a=>e=returned D/\R a))(k:∀a,R a->z6 (returned D) a):Calls M l N w z6:=VP H (by grind)
abbrev aq (b i:Nat):Addr:=⟨b,i,none⟩
abbrev aC (b:Nat):Addr:=⟨b,0,none⟩
abbrev cM (w:World) (b i:Nat) (v:Value):Prop:=w.cell? ⟨b,i,none⟩=some v
abbrev BkL (w:World) (b:Nat) (c:Array Value) (t:Nat):Prop:=w.heap[b]?=some (.cells c t)
abbrev bS (b:Nat):Value:=pointer (some ⟨b,0,none⟩)
abbrev J (n:Int):Value:=int i64 n
abbrev cL:Value:=string ⟨#[]⟩
abbrev ij (v:Value) (w:World):Ending->World->Prop:=λe w'=>e=returned v/\w'=w
abbrev mU (v:Value) (w:World):Ending->World->Prop:=λe w'=>e=returned v/\aa [] w w'
abbrev aM (c:Array Value) (t:Nat):Obj:=.cells c t (0,0)
abbrev an (x:ByteArray):Value:=string x
abbrev Y (a:Option Addr) (n c:Nat):Value:=slice a n c
abbrev dw (v:Value):Ending:=returned v
abbrev bF:=Calls prog
abbrev aW (w w':World):Prop:=aa [] w w'
abbrev KyD (x:ByteArray) (n:UInt8):Bool:=x.toList == [36,n]
abbrev HzW (w:World):Nat:=w.heap.size
theorem yE{a b:Prop}(c:a)(d:b):Z a/\Z b:=⟨c,d⟩
theorem CR{a b c:Prop}(d:a)(e:b)(f:c):Z a/\Z b/\Z c:=⟨d,e,f⟩
theorem TP{a b c d:Prop}(e:a)(f:b)(g:c)(i:d):Z a/\Z b/\Z c/\Z d:=⟨e,f,g,i⟩
theorem rJ{a b c d e:Prop}(f:a)(g:b)(i:c)(j:d)(k:e):Z a/\Z b/\Z c/\Z d/\Z e:=⟨f,g,i,j,k⟩
theorem hg6{a b c d e f:Prop}(g:a)(i:b)(j:c)(k:d)(l:e)(m:f):Z a/\Z b/\Z c/\Z d/\Z e/\Z f:=⟨g,i,j,k,l,m⟩
theorem hg7{a b c d e f g:Prop}(i:a)(j:b)(k:c)(l:d)(m:e)(n:f)(o:g):Z a/\Z b/\Z c/\Z d/\Z e/\Z f/\Z g:=⟨i,j,k,l,m,n,o⟩
theorem hg8{a b c d e f g i:Prop}(j:a)(k:b)(l:c)(m:d)(n:e)(o:f)(p:g)(q:i):Z a/\Z b/\Z c/\Z d/\Z e/\Z f/\Z g/\Z i:=⟨j,k,l,m,n,o,p,q⟩
theorem hg9{a b c d e f g i j:Prop}(k:a)(l:b)(m:c)(n:d)(o:e)(p:f)(q:g)(r:i)(s:j):Z a/\Z b/\Z c/\Z d/\Z e/\Z f/\Z g/\Z i/\Z j:=⟨k,l,m,n,o,p,q,r,s⟩
theorem iNg{c:Prop}[Decidable c]{α:Type}{x y:α}(h:¬c:=by omega):ite c x y=y:=VI h
theorem iSm{c:Prop}[Decidable c]{α:Type}{x y:α}(h:¬c:=by simp):ite c x y=y:=VI h
def db(n:Int):Bool:=n==32||n==9||n==10||n==12||n==13
def eV(n:Int):Bool:=decide (33<=n)&&decide (n<=126)
theorem jS :
  bF 166 #[int u8 z4] T (ij (bool (db z4)) T):=by go_enter func166,ntmps166;go_wp2;(all_goals go_ret);all_goals (refine⟨?_,rfl⟩;simp[db, *])
theorem pF :
  bF 169 #[int u8 z4] T (ij (bool (eV z4)) T):=by go_enter func169,ntmps169;go_wp2;(all_goals go_ret);all_goals (refine⟨?_,rfl⟩;first | (simp[eV, *];done) | (simp[eV];omega))
def zeb(d:Vq)(k:Nat):Int:=if h:k<d.size then((d[k]'h).toNat:Int) else 0
theorem aR(h:f<H.size):zeb H f=((H[f]'h).toNat:Int):=by grind [zeb]
def aV(d:Vq):Nat->Int
 | 0=>1
 | k+1=>if zeb d k==10 then aV d k+1 else aV d k
def bZ(d:Vq):Nat->Int
 | 0=>1
 | k+1=>if zeb d k==10 then 1 else bZ d k+1
theorem xc(k:Nat):1<=aV H k/\aV H k<=k+1:=by induction k with|zero=>simp[aV]|succ k a=>grind [aV]
theorem Pg(k:Nat):1<=bZ H k/\bZ H k<=k+1:=by induction k with|zero=>simp[bZ]|succ k a=>grind [bZ]
def mh(n d:Vq)(k:Nat):Array Value:=#[an n,an d,J k,J (aV d k),J (bZ d k)]
def cy(w:World)(b:Nat)(n d:Vq)(k:Nat):Prop:=w.heap[b]?=some (aM (mh n d k) 242)
theorem cy.cells(h:cy w l q I n) :
  cM w l 0 (an q)/\cM w l 1 (an I)/\cM w l 2 (J n) /\
  cM w l 3 (J (aV I n))/\cM w l 4 (J (bZ I n)):=by refine⟨?_,?_,?_,?_,?_⟩ <;> exact ot h rfl
theorem cy.Z0{S:Vu}(h:cy w l q I n)(b:aa S w y)(a:l∉S):cy y l q I n :=
 (b.block l (am h) a).trans h
theorem aa.get(b:aa i w y)(h:w.heap[l]?=some z3)(a:l∉i):y.heap[l]?=some z3 :=
 (b.block l (am h) a).trans h
theorem aa.gt(b:aa i w y)(h:w.heap[l]?=some z3)(a:l∉i:=by simp):y.heap[l]?=some z3:=b.get h a
theorem DJ(h:cy w l q I n)(d:n<I.size)(c:((I[n].toNat:Int)==10)=true)(m:Nat) :
  cy (((((w.drewN m).setCell (aq l 3) (J (aV I n+1))).setCell (aq l 4) (J 0)).setCell (aq l 4) (J 1)).setCell (aq l 2) (J ((n:Int)+1))) l q I (n+1):=by have a:(w.drewN m).heap[l]?=some (aM (mh q I n) 242):=h;have b:=ab (ab (ab (ab a 3 (J (aV I n+1))) 4 (J 0)) 4 (J 1)) 2 (J ((n:Int)+1));unfold cy;rw[b];simp[mh,aV,bZ,aR I n d,c]
theorem wL(h:cy w l q I n)(d:n<I.size)(c:((I[n].toNat:Int)==10)=false)(m:Nat) :
  cy (((w.drewN m).setCell (aq l 4) (J (bZ I n+1))).setCell (aq l 2) (J ((n:Int)+1))) l q I (n+1):=by have a:(w.drewN m).heap[l]?=some (aM (mh q I n) 242):=h;have b:=ab (ab a 4 (J (bZ I n+1))) 2 (J ((n:Int)+1));unfold cy;grind [mh,aV,bZ,aR]
theorem GV(p:H.size<=1024)(a:d<H.size)(h:cy T L x H d) :
  bF 167 #[bS L] T λe b=>e=dw (tuple #[])/\cy b L x H (d+1)/\aa [L] T b:=by obtain⟨g,i,j,k,l⟩:=h.cells;have m:=ay h 2;have n:=ay h 3;have o:=ay h 4;have f:=xc H d;have c:=Pg H d;go_enter func167,ntmps167;go_wp2;go_quiet (fail);go_wp2;go_quiet (fail);go_wp2;(all_goals go_end0);(all_goals refine⟨rfl,?_,?_⟩);{exact DJ h a (by omega) _};{exact((((((aa.refl _ _).drewN _).sl1 _).sl1 _).sl1 _).sl1 _)};{exact wL h a (by omega) _};{exact((((aa.refl _ _).drewN _).sl1 _).sl1 _)}
theorem BC(h:cy T L x H d) :
  bF 168 #[bS L] T (mU (agg #[an x,J (aV H d),J (bZ H d)]) T):=by obtain⟨a,b,c,e,f⟩:=h.cells;have g:=am h;go_enter func168,ntmps168;go_wp2;go_region;(all_goals go_wp2);exact VV (v:=agg #[an x,J (aV H d),J (bZ H d)]) (by simp[results,results168,go_sem]) rfl ⟨rfl,((aa.refl _ _).alloc _).drew⟩
def qH(d:Vq):Nat->Nat->Nat
 | 0,k=>k
 | f+1,k=>if k<d.size/\db (zeb d k)=true then qH d f (k+1) else k
def skip(d:Vq)(k:Nat):Nat:=qH d (d.size-k) k
def mK(d:Vq):Nat->Nat->Nat
 | 0,k=>k
 | f+1,k=>if k<d.size/\db (zeb d k)=false/\eV (zeb d k)=true then mK d f (k+1) else k
def bL(d:Vq)(k:Nat):Nat:=mK d (d.size-k) k
theorem m9(h:f<H.size)(a:db (zeb H f)=true):skip H f=skip H (f+1):=by unfold skip;rw[show H.size-f=(H.size-(f+1))+1 by omega];grind [qH]
theorem mE(h:¬(f<H.size/\db (zeb H f)=true)):skip H f=f:=by unfold skip;cases H.size-f with|zero=>rfl|succ a=>rw[qH,VI h]
theorem xy(h:f<H.size)(a:db (zeb H f)=false)(b:eV (zeb H f)=true):bL H f=bL H (f+1):=by unfold bL;rw[show H.size-f=(H.size-(f+1))+1 by omega];grind [mK]
theorem kB(h:¬(f<H.size/\db (zeb H f)=false/\eV (zeb H f)=true)):bL H f=f:=by unfold bL;cases H.size-f with|zero=>rfl|succ a=>rw[mK,VI h]
theorem B7(f k:Nat):k<=qH H f k/\(k<=H.size->qH H f k<=H.size):=by induction f generalizing k with|zero=>simp[qH]|succ f a=>grind [qH]
theorem Cj(f k:Nat):k<=mK H f k/\(k<=H.size->mK H f k<=H.size):=by induction f generalizing k with|zero=>simp[mK]|succ f a=>grind [mK]
theorem kZ(h:f<=H.size):f<=skip H f/\skip H f<=H.size:=⟨(B7 H _ f).1,(B7 H _ f).2 h⟩
theorem i6(h:f<=H.size):f<=bL H f/\bL H f<=H.size:=⟨(Cj H _ f).1,(Cj H _ f).2 h⟩
structure sW where
 text:Vq
 Zac:Int
 Z8:Bool
 pos:Nat
def fW(n d:Vq)(i:sW):Value:=agg #[an i.text,J i.Zac,bool i.Z8,an n,J (aV d i.pos),J (bZ d i.pos)]
def bA(d:Vq)(k:Nat):sW×Nat :=
 let a:=skip d k
 let z:=bL d a
 if z<d.size/\db (zeb d z)=false then(⟨⟨#[]⟩,1,false,z⟩,z)
 else if z<=a then(⟨⟨#[]⟩,0,true,a⟩,z)
 else(⟨d.extract a z,0,false,a⟩,z)
theorem Rl(b:d=skip m L)(e:bL m f=bL m d)(g:f<m.size)(a:db (zeb m f)=false)(c:eV (zeb m f)=false) :
  bA m L=(⟨⟨#[]⟩,1,false,f⟩,f):=by grind [bL,skip,kB,bA]
theorem Rm(a:d=skip m L)(c:bL m f=bL m d)(b:¬(f<m.size/\db (zeb m f)=false))(e:f<=d) :
  bA m L=(⟨⟨#[]⟩,0,true,d⟩,f):=by grind [bL,skip,kB,bA]
theorem BU(a:d=skip m L)(c:bL m f=bL m d)(b:¬(f<m.size/\db (zeb m f)=false))(e:d<f) :
  bA m L=(⟨m.extract d f,0,false,d⟩,f):=by grind [bL,skip,kB,bA]
theorem Oy :
  (∃h:f<H.size,db ((H[f]'h).toNat:Int)=false/\eV ((H[f]'h).toNat:Int)=true/\bL H (f+1)=bL H f) ∨
  (∃h:f<H.size,db ((H[f]'h).toNat:Int)=false/\eV ((H[f]'h).toNat:Int)=false) ∨
  (∃h:f<H.size,db ((H[f]'h).toNat:Int)=true)∨(¬f<H.size/\decide ((f:Int)<(H.size:Int))=false):=by grind [aR,db,zeb,eV,xy]
def nO(n:Int):Bool:=decide (33<=n)&&decide (n<=126) && !(n==36)
def kR(s:Vq):Bool:=decide (1<=s.size)&&decide (s.size<=8)&&(List.range s.size).all (λi=>nO (zeb s i))
def jH(n d:Vq):Int:=if kR n=false then 2 else if 1024<d.size then 3 else 0
theorem tJ(h:H.size<1∨8<H.size):kR H=false:=by grind [kR]
theorem IR(h:f<H.size)(a:nO (zeb H f)=false):kR H=false:=by grind [kR,nO,zeb]
theorem Fp(a:1<=H.size)(b:H.size<=8)(h:∀i,i<H.size->nO (zeb H i)=true):kR H=true:=by grind [kR,nO,zeb]
theorem sC(q:H.size<=1073741824) :
    bF 75 #[an H] T (ij (bool (kR H)) T):=by
  by_cases f:1<=H.size
  · by_cases j:H.size<=8
    · go_enter func75,ntmps75;go_wp2;go_loopg [3] H.size (λg i wr=>∃k:Nat,k<=H.size/\g=H.size-k/\i=J k/\Z (∀i,i<k->nO (zeb H i)=true)/\wr=T);{exact⟨0,by omega,by omega,rfl,λi h=>by omega,rfl⟩};obtain⟨k,p,n,rfl,a,rfl⟩:=hrel;by_cases c:k<H.size
      · (have m:∀b:Bool,nO (H[k].toNat:Int)=b->nO (zeb H k)=b:=λb h=>by grind [aR]);have d:Z (∀b:Bool,nO (H[k].toNat:Int)=b->nO (zeb H k)=b):=m;go_wp2
        all_goals first
          | (go_ret;refine⟨aT ?_,rfl⟩;rw[IR H k c (d.o false ?_)];first | (simp[nO];omega) | (simp[nO];simp at *;omega))
          | (go_roundg (H.size-(k+1))
             case measure=>omega
             case rel =>
               refine⟨k+1,by omega,rfl,by go_num,?_,rfl⟩;intro i l;by_cases e:i=k
               · grind [nO]
               · exact a i (by omega))
      {go_wp2;go_ret;exact⟨aT (Fp H f j (λi l=>a i (by omega))).symm,rfl⟩}
    {go_enter func75,ntmps75;go_wp2;(all_goals go_ret);all_goals exact⟨aT (tJ H (VH (by omega))).symm,rfl⟩}
  {go_enter func75,ntmps75;go_wp2;(all_goals go_ret);all_goals exact⟨aT (tJ H (VR (by omega))).symm,rfl⟩}
theorem qU(b:x.size<=1073741824)(f:H.size<=4294967296) :
    bF 47 #[an x,an H] T (ij (J (jH x H)) T):=by cases a:kR x;{go_enter func47,ntmps47;go_wp2_with fail;refine(sC x _ b).mono ?_;rintro e d ⟨rfl,rfl⟩;go_wp2;go_ret;exact⟨aB (by simp[jH,a]),rfl⟩};{by_cases c:1024<H.size;all_goals(go_enter func47,ntmps47;go_wp2_with fail;refine(sC x _ b).mono ?_;rintro e d ⟨rfl,rfl⟩;go_wp2;go_ret;exact⟨aB (by simp[jH,a,c]),rfl⟩)}
def cH(fs:Fs)(i:Nat):Vq:=(fs.getD i (⟨#[]⟩,⟨#[]⟩)).1
def aw(fs:Fs)(i:Nat):Vq:=(fs.getD i (⟨#[]⟩,⟨#[]⟩)).2
def uh(fs:Fs):List Value :=
  [an (cH fs 0),an (aw fs 0),an (cH fs 1),an (aw fs 1),an (cH fs 2),an (aw fs 2),an (cH fs 3),an (aw fs 3),J fs.length]
def cR(w:World)(v t:Nat)(fs:Fs)(more:List Value):Prop:=w.heap[v]?=some (aM (uh fs++more).toArray t)/\fs.length<=4
theorem cR.name{a:Fs}(h:cR w l n a u)(i:Nat)(b:i<4) :
    w.cell? (aq l (i*2))=some (an (cH a i))/\w.cell? (aq l (i*2+1))=some (an (aw a i)):=by
  (constructor <;> rw[ar h.1])
  all_goals
    match i,b with
    | 0,_=>rfl
    | 1,_=>rfl
    | 2,_=>rfl
    | 3,_=>rfl
theorem cR.count{a:Fs}(h:cR w l n a u) :
    cM w l 8 (J a.length):=by exact ot h.1 rfl
def dg(n:Vq):Fs->Nat->Int
  | [],_=>-1
  | f :: r,i=>if(f.1.toList==n.toList)=true then i else dg n r (i+1)
def gG(fs:Fs)(n:Vq):Int:=dg n fs 0
theorem KL{α:Type}(l:List α)(k:Nat)(h:k<l.length):l.drop k=l[k] :: l.drop (k+1):=by simp
theorem Ba(a:Fs)(k:Nat)(h:k<a.length):cH a k=a[k].1:=by grind [cH]
theorem PG(a:Fs)(n:Vq)(k:Nat)(h:k<a.length)(c:gG a n=dg n (a.drop k) k)(b:((cH a k).toList==n.toList)=true):gG a n=k:=by grind [KL,dg,Ba]
theorem Mz(a:Fs)(n:Vq)(k:Nat)(h:k<a.length)(c:gG a n=dg n (a.drop k) k)(b:((cH a k).toList==n.toList)=false):gG a n=dg n (a.drop (k+1)) (k+1):=by grind [KL,dg,Ba]
theorem MA(a:Fs)(n:Vq)(k:Nat)(h:¬k<a.length)(b:gG a n=dg n (a.drop k) k):gG a n=-1:=by rw[b,WO (by omega),dg]
theorem nG(a:Fs)(e:List Value)(n:Vq)(w:World)(h:cR w d f a e) :
    bF 48 #[bS d,an n] w (ij (J (gG a n)) w):=by have m:=h.count;have p:=h.2;go_enter func48,ntmps48;go_wp2;go_loopg [5] a.length (λg i wr=>∃k:Nat,k<=a.length/\g=a.length-k/\i=J k/\Z (gG a n=dg n (a.drop k) k)/\wr=w);{exact⟨0,by omega,by omega,rfl,rfl,rfl⟩};obtain⟨k,r,q,rfl,b,rfl⟩:=hrel;by_cases c:k<a.length;{obtain⟨s,t⟩:=h.name k (by omega);cases l:((cH a k).toList==n.toList);{have j:Z _:=Mz a n k c b l;go_wp2;go_roundg (a.length-(k+1));{grind};omega};{have j:Z _:=PG a n k c b l;go_wp2;go_ret;exact⟨aB j.o.symm,rfl⟩}};{have j:Z _:=MA a n k c b;go_wp2;go_ret;exact⟨aB j.o.symm,rfl⟩}
theorem cR.free{a:Fs}(h:cR w l n a u)(i:Nat):w.frozen? (aq l i)=false:=ay h.1 i
theorem cR.Z0{a:Fs}{S:Vu}(h:cR w l n a u)(b:aa S w y)(c:l∉S):cR y l n a u :=
 ⟨b.get h.1 c,h.2⟩
theorem cR.lt{t:Nat}{a:Fs}(h:cR w l t a u):l<w.heap.size:=am h.1
theorem PD(a:Fs)(b:List Value)(w:World)(h:cR w L d a b)(i:f<a.length) :
  bF 133 #[bS L,J f] w (mU (agg #[an (cH a f),an (aw a f)]) w):=by have c:=h.count;have e:=h.2;have g:=h.lt;obtain⟨j,k⟩:=h.name f (by omega);go_enter func133,ntmps133;go_wp2;exact VV (v:=agg #[an (cH a f),an (aw a f)]) (by simp[results,results133,go_sem]) rfl ⟨rfl,(aa.refl _ _).alloc _⟩
theorem Vc(f:Fs)(e:List Value)(n d:Vq)(h:f.length<4) :
  (((uh f++e).set (f.length*2) (an n)).set (f.length*2+1) (an d)).set 8 (J ((f.length:Int)+1))=uh (f++[(n,d)])++e:=by
 match f,h with
 | [],_=>rfl
 | [a],_=>rfl
 | [a,b],_=>rfl
 | [a,b,c],_=>rfl
theorem Vd(g:Fs)(f:List Value)(n d:Vq)(k:Nat)(i:k<g.length)(h:g.length<=4) :
  ((uh g++f).set (k*2) (an n)).set (k*2+1) (an d)=uh (g.set k (n,d))++f:=by
 match g,h,k,i with
 | [a],_,0,_=>rfl
 | [a,b],_,0,_=>rfl
 | [a,b],_,1,_=>rfl
 | [a,b,c],_,0,_=>rfl
 | [a,b,c],_,1,_=>rfl
 | [a,b,c],_,2,_=>rfl
 | [a,b,c,e],_,0,_=>rfl
 | [a,b,c,e],_,1,_=>rfl
 | [a,b,c,e],_,2,_=>rfl
 | [a,b,c,e],_,3,_=>rfl
theorem cR.added{a:Fs}(h:cR w l n a u)(b d:Vq)(e:a.length<4) :
  cR (((w.setCell (aq l (a.length*2)) (an b)).setCell (aq l (a.length*2+1)) (an d)).setCell (aq l 8) (J ((a.length:Int)+1))) l n (a++[(b,d)]) u:=by have c:=ab (ab (ab h.1 (a.length*2) (an b)) (a.length*2+1) (an d)) 8 (J ((a.length:Int)+1));refine⟨?_,by grind⟩;grind [Vc]
theorem cR.turned{a:Fs}(h:cR w l n a u)(b d:Vq)(k:Nat)(e:k<a.length) :
  cR ((w.setCell (aq l (k*2)) (an b)).setCell (aq l (k*2+1)) (an d)) l n (a.set k (b,d)) u:=by have c:=ab (ab h.1 (k*2) (an b)) (k*2+1) (an d);refine⟨?_,by simpa using h.2⟩;rw[c];simp only[List.setIfInBounds_toArray,Vd a u b d k e h.2]
theorem SZ(b:Fs)(a:List Value)(w:World)(h:cR w L d b a)(i:b.length<4) :
  bF 49 #[bS L,agg #[an x,an H]] w λe f=>e=dw (tuple #[])/\cR f L d (b++[(x,H)]) a/\aa [L] w f:=by have c:=h.count;have g:=h.free;have j:=h.lt;obtain⟨k,l⟩:=h.name b.length (by omega);go_enter func49,ntmps49;go_wp2;go_region;(all_goals go_wp2);(all_goals go_end0);exact⟨rfl,(h.added x H i).Z0 (bN.alloc _ |>.drew) (by simp),((((aa.refl _ _).sl1 _).sl1 _).sl1 _).alloc _ |>.drew⟩
def lA(fs:Fs)(n d:Vq):Int×Fs :=
 if jH n d≠0 then(jH n d,fs)
 else if 0<=gG fs n then(0,fs.set (gG fs n).toNat (n,d))
 else if 4<=fs.length then(1,fs) else(0,fs++[(n,d)])
theorem E3(a:Fs)(i:Nat):dg H a i=-1∨((i:Int)<=dg H a i/\dg H a i<i+a.length):=by induction a generalizing i with|nil=>exact VR rfl|cons f r b=>grind [dg]
theorem E2(a:Fs):gG a H=-1∨∃k:Nat,k<a.length/\gG a H=k:=by rcases E3 H a 0 with h | h;{exact VR h};{refine VH ⟨(gG a H).toNat,?_,?_⟩ <;> (unfold gG;omega)}
theorem Uz(a:Fs)(b:List Value)(w:World)(h:cR w L d a b)(n:x.size<=1073741824)(m:H.size<=4294967296) :
  bF 15 #[bS L,an x,an H] w λe t=>e=dw (J (lA a x H).1)/\cR t L d (lA a x H).2 b/\aa [L] w t:=by have q:=h.count;have A:=h.lt;have s:=h.2;by_cases g:jH x H=0;{rcases E2 x a with i | ⟨k,z,i⟩;{by_cases r:4<=a.length;{have f:Z (lA a x H=(1,a)):=(by show lA a x H=_;simp[lA,g,i,r]);have l:Z (jH x H=0):=g;have c:Z (gG a x=-1):=i;go_enter func15,ntmps15;go_wp2_with fail;refine(qU x H _ n m).mono ?_;rintro e j ⟨rfl,rfl⟩;rw[l.o];go_wp2_with fail;refine(nG L d a b x _ (by exact h.Z0 (bN.alloc _) (by simp))).mono ?_;rintro e j ⟨rfl,rfl⟩;rw[c.o];go_wp2;go_ret;exact⟨aB (by rw[f.o]),by rw[f.o];exact h.Z0 (bN.alloc _) (by simp),(aa.refl _ _).alloc _⟩};{have f:Z (lA a x H=(0,a++[(x,H)])):=(by show lA a x H=_;simp[lA,g,i,r]);have l:Z (jH x H=0):=g;have c:Z (gG a x=-1):=i;go_enter func15,ntmps15;go_wp2_with fail;refine(qU x H _ n m).mono ?_;rintro e j ⟨rfl,rfl⟩;rw[l.o];go_wp2_with fail;refine(nG L d a b x _ (by exact h.Z0 (bN.alloc _) (by simp))).mono ?_;rintro e j ⟨rfl,rfl⟩;rw[c.o];go_wp2_with fail;refine(SZ L d x H a b _ (by exact h.Z0 (bN.alloc _) (by simp)) (by omega)).mono ?_;rintro e D ⟨rfl,u,p⟩;go_wp2;go_ret;exact⟨aB (by rw[f.o]),by rw[f.o];exact u,((aa.refl _ _).alloc _).trans p⟩}};{have f:Z (lA a x H=(0,a.set k (x,H))):=(by show lA a x H=_;simp[lA,g,i]);have l:Z (jH x H=0):=g;have c:Z (gG a x=k):=i;obtain⟨B,C⟩:=h.name k (by omega);have y:=h.free;go_enter func15,ntmps15;go_wp2_with fail;refine(qU x H _ n m).mono ?_;rintro e j ⟨rfl,rfl⟩;rw[l.o];go_wp2_with fail;refine(nG L d a b x _ (by exact h.Z0 (bN.alloc _) (by simp))).mono ?_;rintro e j ⟨rfl,rfl⟩;rw[c.o];go_wp2_with fail;go_region;(all_goals go_wp2);(all_goals go_ret);exact⟨aB (by rw[f.o]),by rw[f.o];exact(h.turned x H k z).Z0 (bN.alloc _ |>.drew) (by simp),(((aa.refl _ _).sl1 _).sl1 _).alloc _ |>.drew⟩}};{(have f:Z (lA a x H=(jH x H,a)):=by show lA a x H=_;simp[lA,g]);(have v:(jH x H != 0)=true:=by simp[g]);go_enter func15,ntmps15;go_wp2_with fail;refine(qU x H _ n m).mono ?_;rintro e j ⟨rfl,rfl⟩;go_wp2;go_ret;exact⟨aB (by rw[f.o]),by rw[f.o];exact h,aa.refl _ _⟩}
structure Hd where
 ao:Vt
 cap:Nat
def Hd.Z1(h:Hd):Option Nat:=h.ao.map (·.block)
structure fY where
 e:TypeId
 size:Nat
 n:Nat
 xs:List Value
def aD(w:World)(h:Hd)(r:fY):Prop:=w.ownsRow 0 r.e r.size (Y h.ao r.n h.cap) r.n r.xs
theorem Dr(h:Hd)(n:Nat):(Y h.ao n h.cap).ownBlock=h.Z1:=by unfold Hd.Z1;cases h.ao <;> rfl
theorem aD.lt{h:Hd}{r:fY}(o:aD w h r){k:Nat}(a:h.Z1=some k):k<w.heap.size :=
 (World.ownsRow.lt (h:=o) k (by rwa [Dr])).2
theorem aD.ZS{w':World}{h:Hd}{r:fY}(o:aD w h r)(n:∀k,h.Z1=some k->w'.heap[k]?=w.heap[k]?):aD w' h r:=by refine⟨o.1,?_⟩;rcases o.2 with l | ⟨g,a,b,m,i,j,c,d,e,f⟩;{grind};grind [Hd.Z1]
theorem aD.ZY{h:Hd}{r:fY}(o:aD w h r) :
  (h=⟨none,0⟩/\r.n=0/\r.xs=[])∨∃g a,h.ao=some (aC g)/\w.heap[g]?=some (aM a r.e)/\r.n<=h.cap/\h.cap<=maxLen/\a.size=h.cap*r.size/\a.toList.take (r.n*r.size)=r.xs:=by rcases o.2 with ⟨c,b⟩ | ⟨g,d,a,c,q,s,k,l,m,p⟩;{left;injection c with f i j;refine⟨by cases h;simp_all,b,Wx (by rw[o.1,b];simp)⟩};grind
theorem bw:((aC d):Addr).add f=(aq d f):=by simp[Addr.add];grind
theorem aD.cell{h:Hd}{r:fY}(o:aD w h r)(b:h.ao=some (aC l))(j:Nat)(u:Value)(a:r.xs[j]?=some u):cM w l j u:=by have:=o.cells (g:=l) (by grind [Dr,Hd.Z1]) j u a;rw[bw]at this;exact this
theorem aA{v:List Oper}(L:z.guard=none)(s x:Operand)(t:TypeId)(y:z.op=Op.call { callee:=Callee.builtin Builtin.append,args:=#[s,x],argTypes:=#[t,t] })(i:TypeInfo)(E:Value)(f:Nat)(h:Hd)(r:fY)(F:M.underlying t=some (.slice r.e))(G:M.info? r.e=some i)(V:i.zero=some E)(H:i.size=r.size)(W:i.bytes=f)(X:E.cells.size=r.size)(h7:0<r.size)(hs:z0.eval s=Y h.ao r.n h.cap)(o:aD T h r)(B:Addr)(m c:Nat)(d:List Value)(O:z0.eval x=Y (some B) m c)(N:d.length=m*r.size)(K:∀j u,d[j]?=some u->T.cell? (B.add j)=some u)(w:∀u∈d,u.oneCell'=true)(hm:0<m)(b1:r.n+m<=maxLen)(b2:(r.n+m)*f<=140737488355328)(I:∀g a p,aD p ⟨some (aC g),a⟩ ⟨r.e,r.size,r.n+m,r.xs++d⟩->T.grownBy p h.Z1->(h.Z1=some g∨T.heap.size<=g)->wpList M z7 z8 v (z0.put z.dst (Y (some (aC g)) (r.n+m) a)) p) :
  wpList M z7 z8 (z :: v) z0 T:=by rcases o.ZY with ⟨D,U,e3⟩ | ⟨g,C,D,U,e3,e4,e5,e6⟩;{refine wpList_append_grows T L s x t y r.e i E r.size f F G V H W X h7 none 0 0 [] (by grind) (by simp) (by simp) (by simp) B m c d O N K w (by omega) (by omega) (by grind) ?_;intro v' p A l;rcases A.2 with ⟨_,q⟩ | ⟨g,a,C,P,R,q3,q4,q5,q6,q7⟩;{omega};{have:=I g a p ⟨by grind,VH ⟨g,a,C,by simp,WD _,q3,by grind,q5,q6,by grind⟩⟩ (D ▸ l) (VH R);rw[P];simpa [U] using this}};{by_cases hf:r.n+m<=h.cap;{refine wpList_append_fits T L s x t y 0 r.e i r.size F G H g r.n h.cap r.xs (by grind) (by have:=o;unfold aD at this;rw[D]at this;exact this) B m c d O N K w hf ?_;intro p A l;exact I g h.cap p A (by unfold Hd.Z1;rwa [D]) (by grind [Hd.Z1])};{refine wpList_append_grows T L s x t y r.e i E r.size f F G V H W X h7 (some (aC g)) r.n h.cap r.xs (by grind) (by simp) o.1 (by intro b hb j u hj;cases hb;rw[bw];exact o.cell D j u hj) B m c d O N K w (by omega) b1 b2 ?_;intro v' p A l;rcases A.2 with ⟨_,q⟩ | ⟨g',a,S,P,R,q3,q4,q5,q6,q7⟩;{omega};{have:=I g' a p ⟨A.1,by grind⟩ ⟨l.os,l.tape,l.output,l.size,λk hk _=>l.block k hk (by simp)⟩ (VH R);rwa [P]}}}
theorem AB(o D E c:TypeId)(g f a:Nat)(h:Hd)(r:fY)(b:Array Value)(t:TypeId)(C:M.underlying o=some (.slice c))(H:(M.info? c).map (·.size)=some a)(G:r.size=a)(w:T.heap[g]?=some (aM b t))(l:aD T h r)(B:b.size=r.n*a)(u:∀v∈r.xs,v.oneCell'=true) :
  (Builtin.copy_ #[o,D] E #[Y (some (aC g)) r.n f,Y h.ao r.n h.cap]).run M T=.ok (goInt r.n) (T.setRow g r.xs.toArray):=by (have z:r.xs.length=r.n*a:=by have:=l.1;grind);(have d:=run_storeCells_at M g 0 t r.xs 0 b T w (by omega) u;have p:(b.toList.take (0+0)++r.xs++b.toList.drop (0+0+r.xs.length))=r.xs:=by simp_all);(rw[p]at d;have k:(Builtin.firstCells a r.n (Y h.ao r.n h.cap)).run M T=.ok r.xs.toArray T:=by rcases l.ZY with ⟨e,F,q⟩ | ⟨s,m,e,_⟩;{rw[e,q];rfl};{rw[e];exact run_firstCells_some T a r.n (aC s) r.n h.cap r.xs z (λj v y=>by rw[bw];exact l.cell e j v y)});cases A:M.info? c with|none=>grind|some i=>(have x:i.size=a:=by grind);simp[Builtin.copy_,run_underlying C,Builtin.lenOf,sizeOf,typeInfo,A,x,k,d]
theorem Fr(h:aa i w y)(d:l∈i∨w.heap.size<=l)(c:Array Value):aa i w (y.setRow l c) :=
 ⟨h.os,h.tape,h.output,by have:=h.size;simp_all,λk a b=>by
  rw[setRow_other y l k c (by grind)];exact h.block k a b⟩
theorem nF{P:Program}(d j k:TypeId)(g c:Nat)(h:Hd)(r:fY)(a:Array Value)(t:TypeId)(p:P.underlying d=some (.slice r.e))(o:(P.info? r.e).map (·.size)=some r.size)(f:T.heap[g]?=some (aM a t))(m:aD T h r)(i:a.size=r.n*r.size)(l:∀v∈r.xs,v.oneCell'=true) :
  ∃b,(Builtin.copy_ #[d,j] k #[Y (some (aC g)) r.n c,Y h.ao r.n h.cap]).run P T=.ok (goInt r.n) b/\b.heap[g]?=some (aM r.xs.toArray t)/\aa [g] T b/\b.heap.size=T.heap.size :=
 ⟨_,by grind [AB],setRow_heap T g _ _ t _ f,Fr (aa.refl ..) (VR (by simp)) _,by simp⟩
theorem aD.made{r:fY}(b:w.heap[l]?=some (aM r.xs.toArray r.e))(a:r.xs.length=r.n*r.size)(c:r.n<=maxLen):aD w ⟨some (aC l),r.n⟩ r :=
 ⟨a,VH ⟨l,r.n,r.xs.toArray,rfl,WD _,b,Vy _,c,by simpa using a,by simp[<-a]⟩⟩
theorem mC{P:Program}(t B:TypeId)(i:TypeInfo)(z:Value)(d:Nat)(h:Hd)(r:fY)(D:P.underlying t=some (.slice r.e))(E:P.info? r.e=some i)(L:i.zero=some z)(F:i.size=r.size)(M:i.bytes=d)(N:z.cells.size=r.size)(O:0<r.size)(l:aD T h r)(v:Addr)(m c:Nat)(b:List Value)(H:b.length=m*r.size)(G:∀j u,b[j]?=some u->T.cell? (v.add j)=some u)(y:∀u∈b,u.oneCell'=true)(hm:0<m)(X:r.n+m<=maxLen)(b2:(r.n+m)*d<=140737488355328) :
  ∃g a o,(Builtin.append_ #[t,t] B #[Y h.ao r.n h.cap,Y (some v) m c]).run P T=.ok (Y (some (aC g)) (r.n+m) a) o /\
   aD o ⟨some (aC g),a⟩ ⟨r.e,r.size,r.n+m,r.xs++b⟩/\T.grownBy o h.Z1/\(h.Z1=some g∨T.heap.size<=g):=by rcases l.ZY with ⟨x,A,C⟩ | ⟨g,w,x,A,C,e4,e5,e6⟩;{have⟨v',o,p,s,f,_⟩:=run_append_own (P:=P) T T.heap.size t B r.e i z r.size d D E L F M N O (Y none 0 0) 0 [] (VS T _ r.e r.size) v m c b H G y (by omega) (by grind) (Vy _);rcases s.2 with ⟨_,q⟩ | ⟨g,a,w,q1,I,R,S,U,V,W⟩;{omega};{refine⟨g,a,o,?_,⟨by have:=s.1;simpa [C,A] using this,VH ⟨g,a,w,by simp,WD _,R,by simpa [A] using S,U,V,by simpa [A,C] using W⟩⟩,?_,VH I⟩;{grind};{rwa [x]}}};{by_cases hf:r.n+m<=h.cap;{have⟨o,p,s,f⟩:=Zw (P:=P) T 0 t B r.e i r.size D E F g r.n h.cap r.xs (by have:=l;unfold aD at this;rw[x]at this;exact this) v m c b H G y hf;exact⟨g,h.cap,o,by grind,s,by unfold Hd.Z1;rwa [x],by grind [Hd.Z1]⟩};{have⟨v',o,p,s,f⟩:=run_append_arg_grows (P:=P) T t B r.e i z r.size d D E L F M N O (aC g) r.n h.cap r.xs l.1 (by intro j u hj;rw[bw];exact l.cell x j u hj) v m c b H G (by omega) X b2;rcases s.2 with ⟨_,q⟩ | ⟨g',a,K,q1,I,R,S,U,V,W⟩;{omega};{exact⟨g',a,o,by grind,⟨s.1,by grind⟩,⟨f.os,f.tape,f.output,f.size,λk hk _=>f.block k hk (by simp)⟩,VH I⟩}}}
theorem bn{K:Act->World->Prop}{E:Prop}(O:z.guard=none)(s x:Operand)(t:TypeId)(q:z.op=Op.call { callee:=Callee.builtin Builtin.append,args:=#[s,x],argTypes:=#[t,t] })(i:TypeInfo)(v:Value)(b:Nat)(h:Hd)(r:fY)(B:M.underlying t=some (.slice r.e))(C:M.info? r.e=some i)(D:i.zero=some v)(F:i.size=r.size)(G:i.bytes=b)(H:v.cells.size=r.size)(I:0<r.size)(S:z0.eval s=Y h.ao r.n h.cap)(f:aD w h r)(o:Addr)(m c:Nat)(a:List Value)(U:z0.eval x=Y (some o) m c)(R:a.length=m*r.size)(N:∀j u,a[j]?=some u->w.cell? (o.add j)=some u)(p:∀u∈a,u.oneCell'=true)(P:0<m)(y:r.n+m<=maxLen)(A:(r.n+m)*b<=140737488355328)(L:∀g d l,aD l ⟨some (aC g),d⟩ ⟨r.e,r.size,r.n+m,r.xs++a⟩->w.grownBy l h.Z1->(h.Z1=some g∨w.heap.size<=g)->K (z0.put z.dst (Y (some (aC g)) (r.n+m) d)) l) :
  if Region.wanted z (yielded z7 z0.tmps)=true then Oper.wp M z z0 w K z8 else E:=by (have T:Region.wanted z (yielded z7 z0.tmps)=true:=by simp[Region.wanted,O]);rw[VQ T];have⟨g,d,l,k,V,W,X⟩:=mC (P:=M) w t z.type i v b h r B C D F G H I f o m c a R N p P y A;unfold Oper.wp;simp[execOp,q,resolve,invoke,builtin,S,U,k,Result.andThen];exact L g d l V W X
theorem eQ{P:Program}(t e:TypeId)(i:TypeInfo)(z:Value)(d:P.underlying t=some (.slice e))(b:P.info? e=some i)(f:i.zero=some z)(n a:Nat)(c:i.size=a)(g:i.bytes*n<=281474976710656)(j:n<=1073741824) :
  (Instr.makeSlice t (J n) (J n)).run P T=.ok (Y (some (aC T.heap.size)) n n) (T.alloc (aM (madeCells z.cells (n*a)) e)):=by have:=run_make (P:=P) T t e i z d b f i64 i64 n n (by omega) (Int.le_refl _) (by omega) (by omega);grind
def lj(w:World)(x:Nat)(fs:Fs)(rep:Bool)(a b c:Value):Prop:=cR w x 53 fs [bool rep,a,b,c]
def Ug:Value:=Y none 0 0
def iH(w:World)(x:Nat)(fs:Fs):Prop:=lj w x fs false Ug Ug Ug
def cI(w:World)(x:Nat)(fs:Fs):Prop:=∃rep a b c,lj w x fs rep a b c
theorem iH.anyR{a:Fs}(h:iH w l a):cI w l a:=⟨_,_,_,_,h⟩
theorem lj.anyR{a:Fs}(h:lj w l a z1 D g s):cI w l a:=⟨_,_,_,_,h⟩
theorem iH.Z0{a:Fs}{S:Vu}(h:iH w l a)(k:aa S w y)(b:l∉S):iH y l a:=cR.Z0 h k b
theorem cI.Z0{d:Fs}{S:Vu}(h:cI w l d)(k:aa S w y)(e:l∉S):cI y l d:=by have⟨r,a,b,c,h⟩:=h;exact⟨r,a,b,c,cR.Z0 h k e⟩
theorem cI.lt{d:Fs}(h:cI w l d):l<w.heap.size:=by have⟨r,a,b,c,h⟩:=h;exact cR.lt h
theorem lj.cells{a:Fs}(h:lj w l a z1 D g s) :
  cM w l 9 (bool z1)/\cM w l 10 D/\cM w l 11 g/\cM w l 12 s:=by refine⟨?_,?_,?_,?_⟩ <;> exact ot h.1 rfl
def Hg(w:World)(x:Nat)(rep:Bool)(a b c:Value):World:=(((w.setCell (aq x 9) (bool rep)).setCell (aq x 10) a).setCell (aq x 11) b).setCell (aq x 12) c
theorem lj.turn{e:Fs}(h:lj w l e z1 D g s)(a:Bool)(b c d:Value):lj (Hg w l a b c d) l e a b c d:=by refine⟨?_,h.2⟩;unfold Hg;rw[ab (ab (ab (ab h.1 9 (bool a)) 10 b) 11 c) 12 d];rfl
theorem J7(h:aa i w y)(d:l∈i∨w.heap.size<=l)(e:Bool)(a b c:Value):aa i w (Hg y l e a b c) :=
 (((h.setCell d _).setCell d _).setCell d _).setCell d _
theorem Lt:bF 7 #[] T λe a=>e=dw (bS T.heap.size)/\iH a T.heap.size []/\aW T a:=by go_enter func7,ntmps7;go_wp2;go_ret;exact⟨rfl,⟨VB ..,by simp⟩,(aa.refl ..).alloc _⟩
theorem ET(g:Fs)(w:World)(h:cI w f g) :
  bF 16 #[bS f] w λe i=>e=dw (tuple #[])/\iH i f g/\aa [f] w i:=by have⟨m,a,b,c,h⟩:=h;have⟨n,j,k,l⟩:=h.cells;have o:=cR.free h;have d:Z _:=h.turn false (Y none 0 0) (Y none 0 0) (Y none 0 0);unfold Hg at d;go_enter func16,ntmps16;go_wp2;go_end0;exact⟨rfl,d,J7 (aa.refl ..) (VR (by simp)) ..⟩
theorem uk(g:Fs)(w:World)(h:cI w d g)(s:x.size<=1073741824)(r:H.size<=4294967296) :
  bF 8 #[bS d,an x,an H] w λe n=>e=dw (J (lA g x H).1)/\cI n d (lA g x H).2/\((lA g x H).1=0->iH n d (lA g x H).2)/\aa [d] w n:=by have⟨j,a,b,c,h⟩:=h;have f:Z _:=(Uz d 53 x H g [bool j,a,b,c] w h s r);generalize lA g x H=t at *;have⟨q,k⟩:=t;simp only at f ⊢;cases u:(q==0);{go_enter func8,ntmps8;go_wp2_with fail;refine VP f ?_;rintro e p ⟨rfl,l,i⟩;go_wp2;go_ret;exact⟨rfl,⟨j,a,b,c,l⟩,by grind,i⟩};{go_enter func8,ntmps8;go_wp2_with fail;refine VP f ?_;rintro e p ⟨rfl,l,i⟩;go_wp2_with fail;refine(ET d k p ⟨j,a,b,c,l⟩).mono ?_;rintro e v ⟨rfl,o,m⟩;go_wp2;go_ret;exact⟨rfl,o.anyR,λ_=>o,i.trans m⟩}
end Go.Proofs.YtnbalopedcgpcaaGreat
