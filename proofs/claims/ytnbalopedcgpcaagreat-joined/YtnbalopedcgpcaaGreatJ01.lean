import Derived.Test.YtnbalopedcgpcaaGreatChecked
import Derived.WalkKit
import Derived.WalkSpells
import Derived.WalkLawsBesides
import Derived.Deep.QuietTactic
import Derived.BigQuiet
import Derived.Deep.LoopGhost
import Derived.Laws.CopyRow
import Derived.Laws.MakeOwn
import Derived.Deep.RegionLaw
namespace Go.Proofs.YtnbalopedcgpcaaGreat
open Go.RowKit Tryz
open Value IntKind Ending
set_option linter.all false
set_option maxHeartbeats 0
abbrev Vq:=ByteArray
abbrev Vs:=List ByteArray
abbrev Vt:=Option Addr
abbrev Vu:=List Nat
variable{v:Vu}{w x:World}{b f:Nat}{L:Array Value}{z3:Obj}{D:Program}{d I g t z2 z5:Value}{z1:Bool}{M i:Vq}{z6:Ending->World->Prop}{m:List Value}{z7:Array Oper}{s:Oper}{z0:Act}{z8:Exit->Act->World->Prop}(N:Vq)(a y:Nat)(T l:Vq)(z4:Int)(n:World)(H:Nat)
def Z(p:Prop):Prop:=p
theorem Z.o{p:Prop}(h:Z p):p:=h
abbrev Vv:=@List.getElem?_eq_getElem
abbrev Vw:=@Nat.le_refl
abbrev Vx:=@Go.heap_alloc_new
abbrev Vy:=@List.getD_eq_getElem?_getD
abbrev Vz:=@List.length_append
abbrev VB:=@Go.RowKit.Below.heap_setCell
abbrev VC:=@Go.Calls.mono
abbrev VD:=@Nat.lt_of_lt_of_le
abbrev VG:=@Nat.one_pos
abbrev VH:=@List.mem_range
abbrev VI:=@List.mem_singleton
abbrev VJ:=@List.mem_append
abbrev VK:=@if_pos
abbrev VL:=@if_neg
abbrev VN:=@Go.World.ownsRow_nil
abbrev VO:=@Or.inr
abbrev VP:=@ByteArray.size_append
abbrev VQ:=@Go.bodyPost_ret
abbrev VR:=@List.getElem_mem
abbrev VS:=@Or.inl
abbrev VT:=@List.mem_map
abbrev VU:=@Nat.le_trans
abbrev VV:=@List.getElem?_eq_some_iff
abbrev VW:=@List.map_append
abbrev VX:=@List.length_map
abbrev VY:=@List.take_succ_eq_append_getElem
abbrev VZ:=@Go.info_parts
abbrev V9:=@Go.Calls.quiet_of_same
abbrev Wa:=@List.getElem_of_mem
abbrev Wb:=@List.eq_nil_of_length_eq_zero
abbrev Wc:=@List.getElem?_append_left
abbrev We:=@List.mem_filter
abbrev Wf:=@List.filter_append
abbrev Wg:=@List.drop_eq_getElem_cons
abbrev Wh:=@Go.ByteArray.toList_eq
abbrev Wi:=@List.range_succ
abbrev Wj:=@List.mem_of_find?_eq_some
abbrev Wk:=@List.mem_flatMap
abbrev Wl:=@List.getElem?_append_right
abbrev Wm:=@Bool.and_eq_true
abbrev Wn:=@List.flatMap_append
abbrev Wo:=@List.mem_append_right
abbrev Wp:=@Nat.zero_le
abbrev Wq:=@Bool.false_eq_true
abbrev Wr:=@List.append_nil
abbrev Ws:=@List.append_assoc
abbrev Wt:=@List.getElem?_map
abbrev Wu:=@List.mem_append_left
abbrev Ww:=@Nat.mul_le_mul_right
abbrev Wx:=@List.take_length
abbrev Wy:=@Option.some.inj
abbrev Wz:=@Go.IntKind.wrap_i64
abbrev WB:=@List.map_congr_left
abbrev WC:=@List.mem_cons
abbrev WD:=@beq_eq_false_iff_ne
abbrev WE:=@Go.World.cell?_of_block
abbrev WF:=@List.not_mem_nil
abbrev WG:=@List.all_eq_true
abbrev WH:=@ByteArray.data_append
abbrev WJ:=@List.drop_of_length_le
abbrev WK:=@List.nil_append
abbrev WL:=@List.setIfInBounds_toArray
abbrev WM:=@List.flatMap_cons
abbrev WN:=@Go.size_madeCells
abbrev WO:=@List.mem_filterMap
abbrev WP:=@Nat.mul_le_mul
abbrev WQ:=@List.foldl_append
abbrev WR:=@List.length_cons
abbrev WS:=@decide_eq_false
abbrev WT:=@ByteArray.size_extract
abbrev WU:=@List.map_map
abbrev WV:=@List.mem_of_getElem?
abbrev WW:=@List.ext_getElem?
abbrev WX:=@List.foldl_cons
abbrev WY:=@Nat.add_zero
abbrev WZ:=@List.flatMap_singleton
abbrev W0:=@List.length_singleton
abbrev Xa:=@Array.toList_append
abbrev Xb:=@List.filter_eq_nil_iff
abbrev Xc:=@Bool.eq_iff_iff
abbrev Xd:=@List.cons.inj
abbrev Xe:=@Go.wp_loop_rounds
abbrev Xf:=@List.length_nil
abbrev Xg:=@ByteArray.append_assoc
abbrev Xh:=@if_false
abbrev Xi:=@List.foldl_nil
abbrev Xj:=@List.map_cons
abbrev Xk:=@List.map_singleton
abbrev Xl:=@LawfulBEq.eq_of_beq
abbrev Xm:=@List.getElem?_cons_succ
abbrev Xn:=@List.getElem?_cons_zero
abbrev Xo:=@List.any_eq_true
abbrev Xp:=@List.length_drop
abbrev Xq:=@ByteArray.getElem_eq_getElem_data
abbrev Xr:=@List.take_of_length_le
abbrev Xs:=@List.append_eq_nil_iff
abbrev Xt:=@List.filter_congr
abbrev Xu:=@ByteArray.getElem_extract
abbrev Xv:=@List.getElem?_eq_none
abbrev Xw:=@List.length_filter_le
abbrev Xx:=@Classical.choose_spec
abbrev Xy:=@List.length_take
abbrev Xz:=@beq_iff_eq
abbrev XA:=@if_true
abbrev XB:=@Go.rounds_succ
abbrev XC:=@or_false
abbrev XD:=@decide_eq_true
abbrev XE:=@Nat.add_sub_cancel_left
abbrev XF:=@List.countP_eq_length_filter
abbrev XG:=@List.mem_map_of_mem
abbrev XH:=@List.filter_eq_self
abbrev XI:=@List.contains_iff_mem
abbrev XJ:=@List.take_append_drop
abbrev XK:=@List.filterMap_append
abbrev XL:=@List.extract_eq_take_drop
abbrev XM:=@decide_eq_true_eq
abbrev XN:=@Nat.sub_self
abbrev XO:=@Bool.not_eq_true'
abbrev XP:=@Nat.zero_add
abbrev XQ:=@List.length_range
abbrev XR:=@Nat.add_assoc
abbrev XS:=@List.getElem?_dropLast
abbrev XT:=@List.find?_eq_none
abbrev XU:=@ByteArray.data_extract
abbrev XV:=@List.find?_some
abbrev XW:=@Array.getElem?_setIfInBounds
abbrev XX:=@List.filter_map
abbrev XY:=@Bool.true_and
abbrev XZ:=@ByteArray.ext_getElem
abbrev X0:=@List.all_eq_false
abbrev X7:=@Int.toNat_natCast
abbrev X8:=@Array.toList_setIfInBounds
abbrev X9:=@Bool.or_eq_false_iff
abbrev Ya:=@List.getElem?_of_mem
abbrev Yb:=@List.mem_cons_of_mem
abbrev Yc:=@Array.toList_extract
abbrev Yd:=@Nat.lt_or_ge
abbrev Ye:=@Nat.zero_mul
abbrev Yf:=@List.cons_append
abbrev Yg:=@List.map_nil
abbrev Yh:=@Array.getElem?_eq_getElem
abbrev Yi:=@List.getD_cons_succ
abbrev Yj:=@List.length_filterMap_le
abbrev Yk:=@ByteArray.ext
abbrev Yl:=@List.map_take
abbrev Ym:=@Bool.false_or
abbrev Yn:=@List.length_set
abbrev Yo:=@Nat.not_lt_zero
abbrev Yp:=@Bool.or_eq_true
abbrev Yq:=@Nat.lt_or_gt_of_ne
abbrev Yr:=@Nat.le_succ
abbrev Ys:=@Int.eq_ofNat_of_zero_le
abbrev Yt:=@List.filter_cons_of_pos
abbrev Yu:=@Nat.succ_pos
abbrev Yv:=@Nat.le_of_eq
abbrev Yw:=@List.getElem_cons_zero
abbrev Yx:=@List.range_add
abbrev Yy:=@Nat.succ_mul
abbrev Yz:=@List.singleton_append
abbrev YA:=@List.flatMap_def
abbrev YB:=@List.filter_cons
abbrev YC:=@Nat.le_of_not_lt
abbrev YD:=@List.eq_nil_iff_forall_not_mem
abbrev YE:=@List.all_cons
abbrev YF:=@List.getLast?_eq_some_getLast
abbrev YG:=@List.dropLast_subset
abbrev YH:=@Nat.div_lt_of_lt_mul
abbrev YI:=@ByteArray.getElem_append_left
abbrev YJ:=@List.mem_of_mem_take
abbrev YK:=@Nat.le_antisymm
abbrev YL:=@List.nodup_cons
abbrev YM:=@List.map_eq_nil_iff
abbrev YN:=@Bool.or_eq_true_iff
abbrev YO:=@List.filterMap_cons
abbrev YP:=@List.drop_succ_cons
abbrev YQ:=@Nat.mul_comm
abbrev YR:=@Bool.or_true
abbrev YS:=@List.take_length_add_append
abbrev YT:=@Go.World.grownBy.refl
abbrev YU:=@List.set_cons_succ
abbrev YV:=@Int.tmod_lt_of_pos
abbrev YW:=@List.drop_zero
abbrev YX:=@List.pairwise_iff_getElem
abbrev YY:=@List.getElem_append_right
abbrev YZ:=@List.nodup_append
abbrev Y0:=@List.any_eq_false
abbrev Y1:=@Nat.lt_trichotomy
abbrev Y2:=@List.take_set
abbrev Y3:=@Nat.lt_irrefl
abbrev Y4:=@Bool.or_false
abbrev Y5:=@List.getElem_append_left
abbrev Y6:=@List.ext_getElem
abbrev Y7:=@decide_eq_false_iff_not
abbrev Y8:=@List.nodup_range
abbrev Y9:=@List.pairwise_singleton
abbrev Za:=@List.flatMap_map
abbrev Zb:=@List.flatMap_nil
abbrev Zc:=@Nat.mul_add_div
abbrev Zd:=@Int.tmod_nonneg
abbrev Ze:=@List.countP_map
abbrev Zf:=@Nat.mul_one
abbrev Zg:=@Nat.add_le_add
abbrev Zh:=@Nat.mul_pos
abbrev Zi:=@Bool.false_and
abbrev Zj:=@List.take_left
abbrev Zk:=@Array.ext
abbrev Zl:=@Bool.not_true
abbrev Fs:=List (ByteArray×ByteArray)
structure ab(S:Vu)(w w':World):Prop where
 os:w'.os=w.os
 tape:w'.tape=w.tape
 output:w'.output=w.output
 size:w.heap.size<=w'.heap.size
 block:∀k,k<w.heap.size->k∉S->w'.heap[k]?=w.heap[k]?
theorem ab.refl(S:Vu)(w:World):ab S w w:=⟨rfl,rfl,rfl,Vw _,λ_ _ _=>rfl⟩
theorem ab.trans{c:World}(h:ab v w x)(k:ab v x c):ab v w c :=
 ⟨k.os.trans h.os,k.tape.trans h.tape,k.output.trans h.output,VU h.size k.size,
  λi a b=>(k.block i (VD a h.size) b).trans (h.block i a b)⟩
theorem ab.mono{S':Vu}(h:ab v w x)(b:∀k,k∈v->k<w.heap.size->k∈S'):ab S' w x :=
 ⟨h.os,h.tape,h.output,h.size,λk a c=>h.block k a (by grind)⟩
theorem ab.drew(h:ab v w x):ab v w x.drew:=⟨h.os,h.tape,h.output,h.size,h.block⟩
theorem ab.drewN(h:ab v w x)(n:Nat):ab v w (x.drewN n):=⟨h.os,h.tape,h.output,h.size,h.block⟩
theorem ab.alloc(h:ab v w x)(o:Obj):ab v w (x.alloc o) :=
 h.trans ⟨rfl,rfl,rfl,by simp,λk a _=>Below.heap_alloc _ _ _ a⟩
theorem ab.setCell(h:ab v w x){p:Addr}(c:p.block∈v∨w.heap.size<=p.block)(u:Value):ab v w (x.setCell p u) :=
 ⟨h.os,h.tape,h.output,by have:=h.size;simp_all,λk a b=>by
  rw[VB _ _ _ _ (by grind)];exact h.block k a b⟩
theorem ay(h:w.heap[b]?=some (.cells L f))(i:Nat):w.cell? ⟨b,i,none⟩=L[i]?:=by unfold World.cell?;simp[h]
theorem aE(h:w.heap[b]?=some (.cells L f))(i:Nat):w.frozen? ⟨b,i,none⟩=false:=by unfold World.frozen?;simp[h]
theorem ac(h:w.heap[b]?=some (.cells L f))(i:Nat)(u:Value) :
  (w.setCell ⟨b,i,none⟩ u).heap[b]?=some (.cells (L.setIfInBounds i u) f):=by simp[World.setCell,Array.getElem?_modify,h]
theorem ak(h:w.heap[b]?=some z3):b<w.heap.size:=by grind
theorem m9{c:FuncId}(h:Calls D c L (w.drewN (b+f)) λe a=>e=returned d/\a=w.drewN (b+f)) :
  Calls D c L (w.drewN (b+f)) λe a=>e=returned d/\∃n,a=w.drewN (b+n) :=
 h.mono λ_ _ g=>⟨g.1,f,g.2⟩
theorem aT{b:Bool}(h:z1=b):Ending.returned (bool z1)=returned (bool b):=by rw[h]
theorem aH{k:IntKind}{a b:Int}(h:a=b):Ending.returned (int k a)=returned (int k b):=by rw[h]
theorem fJ(h:M.toList=i.toList):M=i:=by rw[Wh,Wh]at h;cases M;simp_all
theorem kN(h:(M.toList==i.toList)=true):M=i:=fJ (by grind)
theorem vT(h:M=i):(M.toList==i.toList)=true:=by grind
theorem sL(h:w.heap[b]?=some (.cells #[d,I] f)):w.cell? ⟨b,0,none⟩=some d/\w.cell? ⟨b,1,none⟩=some I :=
 ⟨ay h _,ay h _⟩
theorem Eh(h:w.heap[b]?=some (.cells #[d,I,g] f)):w.cell? ⟨b,0,none⟩=some d/\w.cell? ⟨b,1,none⟩=some I/\w.cell? ⟨b,2,none⟩=some g :=
 ⟨ay h _,ay h _,ay h _⟩
theorem RH(h:w.heap[b]?=some (.cells #[d,I,g,t] f)):w.cell? ⟨b,0,none⟩=some d/\w.cell? ⟨b,1,none⟩=some I/\w.cell? ⟨b,2,none⟩=some g/\w.cell? ⟨b,3,none⟩=some t :=
 ⟨ay h _,ay h _,ay h _,ay h _⟩
theorem Ke(h:w.heap[b]?=some (.cells #[d,I,g,t,z2] f)):w.cell? ⟨b,0,none⟩=some d/\w.cell? ⟨b,1,none⟩=some I/\w.cell? ⟨b,2,none⟩=some g/\w.cell? ⟨b,3,none⟩=some t/\w.cell? ⟨b,4,none⟩=some z2 :=
 ⟨ay h _,ay h _,ay h _,ay h _,ay h _⟩
theorem zfr(h:w.heap[b]?=some (.cells #[d,I,g,t,z2,z5] f)):w.cell? ⟨b,0,none⟩=some d/\w.cell? ⟨b,1,none⟩=some I/\w.cell? ⟨b,2,none⟩=some g/\w.cell? ⟨b,3,none⟩=some t/\w.cell? ⟨b,4,none⟩=some z2/\w.cell? ⟨b,5,none⟩=some z5 :=
 ⟨ay h _,ay h _,ay h _,ay h _,ay h _,ay h _⟩
theorem uG{a c:Value}(h:w.heap[b]?=some (.cells #[d,I,g,t,z2,z5,a,c] f)):w.cell? ⟨b,0,none⟩=some d/\w.cell? ⟨b,1,none⟩=some I/\w.cell? ⟨b,2,none⟩=some g/\w.cell? ⟨b,3,none⟩=some t/\w.cell? ⟨b,4,none⟩=some z2/\w.cell? ⟨b,5,none⟩=some z5/\w.cell? ⟨b,6,none⟩=some a/\w.cell? ⟨b,7,none⟩=some c :=
 ⟨ay h _,ay h _,ay h _,ay h _,ay h _,ay h _,ay h _,ay h _⟩
theorem gV(h:w.alloc (.cells L b)=x):x.heap[w.heap.size]?=some (.cells L b):=by rw[<-h];exact Vx ..
theorem fU(h:w.alloc (.cells L b)=x):ab [] w x:=by rw[<-h];exact(ab.refl [] _).alloc _
theorem bH:ab [] w w:=ab.refl [] w
theorem ab.sl1(h:ab (b :: v) w x)(a:Value):ab (b :: v) w (x.setCell ⟨b,f,none⟩ a):=h.setCell (VS (by simp)) a
theorem ab.sr1(h:ab v w x)(c:w.heap.size<=b)(a:Value):ab v w (x.setCell ⟨b,f,none⟩ a):=h.setCell (VO c) a
theorem kn:(y<H/\(y:Int)<(H:Int))∨(¬y<H/\¬(y:Int)<(H:Int)):=by omega
theorem bR{α:Type}(e:α):∃x,Z (e=x):=⟨_,rfl⟩
theorem eE{p:Prop}(h:p):Z p:=h
theorem iY{t:Nat}(B:w.heap[b]?=some (.cells L t))(h:L[f]?=some d):w.cell? ⟨b,f,none⟩=some d:=by rwa [ay B]
theorem cEb{a:Addr}(h:x.heap[a.block]?=w.heap[a.block]?)(c:w.cell? a=some d):x.cell? a=some d:=by rwa [WE h]
theorem fz(H:Calls D b L w (λe a=>e=returned d/\a=w))(k:z6 (returned d) w):Calls D b L w z6:=VC H (by grind)
theorem eJ{R:World->Prop}(H:Calls D b L w (λe a=>e=returned d/\R a))(k:∀a,R a->z6 (returned d) a):Calls D b L w z6:=VC H (by grind)
abbrev X (b i:Nat):Addr:=⟨b,i,none⟩
abbrev aD (b:Nat):Addr:=⟨b,0,none⟩
abbrev bY (w:World) (b i:Nat) (v:Value):Prop:=w.cell? ⟨b,i,none⟩=some v
abbrev BkL (w:World) (b:Nat) (c:Array Value) (t:Nat):Prop:=w.heap[b]?=some (.cells c t)
abbrev bB (b:Nat):Value:=pointer (some ⟨b,0,none⟩)
abbrev Y (n:Int):Value:=int i64 n
abbrev dx:Value:=string ⟨#[]⟩
abbrev gG (v:Value) (w:World):Ending->World->Prop:=λe w'=>e=returned v/\w'=w
abbrev mu (v:Value) (w:World):Ending->World->Prop:=λe w'=>e=returned v/\ab [] w w'
abbrev aK (c:Array Value) (t:Nat):Obj:=.cells c t (0,0)
abbrev J (x:ByteArray):Value:=string x
abbrev Q (a:Option Addr) (n c:Nat):Value:=slice a n c
abbrev cA (v:Value):Ending:=returned v
abbrev br:=Calls prog
abbrev aJ (w w':World):Prop:=ab [] w w'
abbrev KyD (x:ByteArray) (n:UInt8):Bool:=x.toList == [36,n]
abbrev HzW (w:World):Nat:=w.heap.size
theorem nM{a b:Prop}(c:a)(d:b):Z a/\Z b:=⟨c,d⟩
theorem yJ{a b c:Prop}(d:a)(e:b)(f:c):Z a/\Z b/\Z c:=⟨d,e,f⟩
theorem hg4{a b c d:Prop}(e:a)(f:b)(g:c)(i:d):Z a/\Z b/\Z c/\Z d:=⟨e,f,g,i⟩
theorem mK{a b c d e:Prop}(f:a)(g:b)(i:c)(j:d)(k:e):Z a/\Z b/\Z c/\Z d/\Z e:=⟨f,g,i,j,k⟩
theorem hg6{a b c d e f:Prop}(g:a)(i:b)(j:c)(k:d)(l:e)(m:f):Z a/\Z b/\Z c/\Z d/\Z e/\Z f:=⟨g,i,j,k,l,m⟩
theorem SO{a b c d e f g:Prop}(i:a)(j:b)(k:c)(l:d)(m:e)(n:f)(o:g):Z a/\Z b/\Z c/\Z d/\Z e/\Z f/\Z g:=⟨i,j,k,l,m,n,o⟩
theorem hg8{a b c d e f g i:Prop}(j:a)(k:b)(l:c)(m:d)(n:e)(o:f)(p:g)(q:i):Z a/\Z b/\Z c/\Z d/\Z e/\Z f/\Z g/\Z i:=⟨j,k,l,m,n,o,p,q⟩
theorem hg9{a b c d e f g i j:Prop}(k:a)(l:b)(m:c)(n:d)(o:e)(p:f)(q:g)(r:i)(s:j):Z a/\Z b/\Z c/\Z d/\Z e/\Z f/\Z g/\Z i/\Z j:=⟨k,l,m,n,o,p,q,r,s⟩
theorem iNg{c:Prop}[Decidable c]{α:Type}{x y:α}(h:¬c:=by omega):ite c x y=y:=VL h
theorem iSm{c:Prop}[Decidable c]{α:Type}{x y:α}(h:¬c:=by simp):ite c x y=y:=VL h
theorem ab.sr(h:ab v w x)(a:w.heap.size<=b:=by simp):ab v w (x.setCell ⟨b,f,none⟩ d):=h.sr1 a d
def de(n:Int):Bool:=n==32||n==9||n==10||n==12||n==13
def fq(n:Int):Bool:=decide (33<=n)&&decide (n<=126)
theorem kj :
  br 166 #[int u8 z4] n (gG (bool (de z4)) n):=by go_enter func166,ntmps166;go_wp2;(all_goals go_ret);all_goals (refine⟨?_,rfl⟩;simp[de, *])
theorem qj :
  br 169 #[int u8 z4] n (gG (bool (fq z4)) n):=by go_enter func169,ntmps169;go_wp2;(all_goals go_ret);all_goals (refine⟨?_,rfl⟩;first | (simp[fq, *];done) | (simp[fq];omega))
def aB(d:Vq)(k:Nat):Int:=if h:k<d.size then((d[k]'h).toNat:Int) else 0
theorem bA(h:H<l.size):aB l H=((l[H]'h).toNat:Int):=by grind [aB]
def ba(d:Vq):Nat->Int
 | 0=>1
 | k+1=>if aB d k==10 then ba d k+1 else ba d k
def cm(d:Vq):Nat->Int
 | 0=>1
 | k+1=>if aB d k==10 then 1 else cm d k+1
theorem yN(k:Nat):1<=ba l k/\ba l k<=k+1:=by induction k with|zero=>simp[ba]|succ k a=>grind [ba]
theorem RK(k:Nat):1<=cm l k/\cm l k<=k+1:=by induction k with|zero=>simp[cm]|succ k a=>grind [cm]
def mN(n d:Vq)(k:Nat):Array Value:=#[J n,J d,Y k,Y (ba d k),Y (cm d k)]
def cB(w:World)(b:Nat)(n d:Vq)(k:Nat):Prop:=w.heap[b]?=some (aK (mN n d k) 242)
theorem cB.cells(h:cB w b M i f) :
  bY w b 0 (J M)/\bY w b 1 (J i)/\bY w b 2 (Y f) /\
  bY w b 3 (Y (ba i f))/\bY w b 4 (Y (cm i f)):=by refine⟨?_,?_,?_,?_,?_⟩ <;> exact iY h rfl
theorem cB.ZE{S:Vu}(h:cB w b M i f)(c:ab S w x)(a:b∉S):cB x b M i f :=
 (c.block b (ak h) a).trans h
theorem ab.get(c:ab v w x)(h:w.heap[b]?=some z3)(a:b∉v):x.heap[b]?=some z3 :=
 (c.block b (ak h) a).trans h
theorem ab.gt(c:ab v w x)(h:w.heap[b]?=some z3)(a:b∉v:=by simp):x.heap[b]?=some z3:=c.get h a
theorem FD(h:cB w b M i f)(e:f<i.size)(d:((i[f].toNat:Int)==10)=true)(m:Nat) :
  cB (((((w.drewN m).setCell (X b 3) (Y (ba i f+1))).setCell (X b 4) (Y 0)).setCell (X b 4) (Y 1)).setCell (X b 2) (Y ((f:Int)+1))) b M i (f+1):=by have a:(w.drewN m).heap[b]?=some (aK (mN M i f) 242):=h;have c:=ac (ac (ac (ac a 3 (Y (ba i f+1))) 4 (Y 0)) 4 (Y 1)) 2 (Y ((f:Int)+1));unfold cB;rw[c];simp[mN,ba,cm,bA i f e,d]
theorem yq(h:cB w b M i f)(e:f<i.size)(d:((i[f].toNat:Int)==10)=false)(m:Nat) :
  cB (((w.drewN m).setCell (X b 4) (Y (cm i f+1))).setCell (X b 2) (Y ((f:Int)+1))) b M i (f+1):=by have a:(w.drewN m).heap[b]?=some (aK (mN M i f) 242):=h;have c:=ac (ac a 4 (Y (cm i f+1))) 2 (Y ((f:Int)+1));unfold cB;grind [mN,ba,cm,bA]
theorem Jt(r:l.size<=1024)(b:y<l.size)(h:cB n a T l y) :
  br 167 #[bB a] n λe c=>e=cA (tuple #[])/\cB c a T l (y+1)/\ab [a] n c:=by obtain⟨g,i,j,k,m⟩:=h.cells;have o:=aE h 2;have p:=aE h 3;have q:=aE h 4;have f:=yN l y;have d:=RK l y;go_enter func167,ntmps167;go_wp2;go_quiet (fail);go_wp2;go_quiet (fail);go_wp2;(all_goals go_end0);(all_goals refine⟨rfl,?_,?_⟩);{exact FD h b (by omega) _};{exact((((((ab.refl _ _).drewN _).sl1 _).sl1 _).sl1 _).sl1 _)};{exact yq h b (by omega) _};{exact((((ab.refl _ _).drewN _).sl1 _).sl1 _)}
theorem Dr(h:cB n a T l y) :
  br 168 #[bB a] n (mu (agg #[J T,Y (ba l y),Y (cm l y)]) n):=by obtain⟨b,c,d,e,f⟩:=h.cells;have g:=ak h;go_enter func168,ntmps168;go_wp2;go_region;(all_goals go_wp2);exact VQ (v:=agg #[J T,Y (ba l y),Y (cm l y)]) (by simp[results,results168,go_sem]) rfl ⟨rfl,((ab.refl _ _).alloc _).drew⟩
def rG(d:Vq):Nat->Nat->Nat
 | 0,k=>k
 | f+1,k=>if k<d.size/\de (aB d k)=true then rG d f (k+1) else k
def skip(d:Vq)(k:Nat):Nat:=rG d (d.size-k) k
def ny(d:Vq):Nat->Nat->Nat
 | 0,k=>k
 | f+1,k=>if k<d.size/\de (aB d k)=false/\fq (aB d k)=true then ny d f (k+1) else k
def bO(d:Vq)(k:Nat):Nat:=ny d (d.size-k) k
theorem nW(h:H<l.size)(a:de (aB l H)=true):skip l H=skip l (H+1):=by unfold skip;rw[show l.size-H=(l.size-(H+1))+1 by omega];grind [rG]
theorem na(h:¬(H<l.size/\de (aB l H)=true)):skip l H=H:=by unfold skip;cases l.size-H with|zero=>rfl|succ f=>rw[rG,VL h]
theorem yZ(h:H<l.size)(a:de (aB l H)=false)(b:fq (aB l H)=true):bO l H=bO l (H+1):=by unfold bO;rw[show l.size-H=(l.size-(H+1))+1 by omega];grind [ny]
theorem kQ(h:¬(H<l.size/\de (aB l H)=false/\fq (aB l H)=true)):bO l H=H:=by unfold bO;cases l.size-H with|zero=>rfl|succ f=>rw[ny,VL h]
theorem DJ(f k:Nat):k<=rG l f k/\(k<=l.size->rG l f k<=l.size):=by induction f generalizing k with|zero=>simp[rG]|succ f a=>grind [rG]
theorem DV(f k:Nat):k<=ny l f k/\(k<=l.size->ny l f k<=l.size):=by induction f generalizing k with|zero=>simp[ny]|succ f a=>grind [ny]
theorem lH(h:H<=l.size):H<=skip l H/\skip l H<=l.size:=⟨(DJ l _ H).1,(DJ l _ H).2 h⟩
theorem js(h:H<=l.size):H<=bO l H/\bO l H<=l.size:=⟨(DV l _ H).1,(DV l _ H).2 h⟩
structure uz where
 text:Vq
 ZO:Int
 ZK:Bool
 pos:Nat
def f9(n d:Vq)(i:uz):Value:=agg #[J i.text,Y i.ZO,bool i.ZK,J n,Y (ba d i.pos),Y (cm d i.pos)]
def bC(d:Vq)(k:Nat):uz×Nat :=
 let a:=skip d k
 let z:=bO d a
 if z<d.size/\de (aB d z)=false then(⟨⟨#[]⟩,1,false,z⟩,z)
 else if z<=a then(⟨⟨#[]⟩,0,true,a⟩,z)
 else(⟨d.extract a z,0,false,a⟩,z)
theorem UM(c:y=skip N a)(e:bO N H=bO N y)(f:H<N.size)(b:de (aB N H)=false)(d:fq (aB N H)=false) :
  bC N a=(⟨⟨#[]⟩,1,false,H⟩,H):=by grind [bO,skip,kQ,bC]
theorem UN(b:y=skip N a)(d:bO N H=bO N y)(c:¬(H<N.size/\de (aB N H)=false))(e:H<=y) :
  bC N a=(⟨⟨#[]⟩,0,true,y⟩,H):=by grind [bO,skip,kQ,bC]
theorem DF(b:y=skip N a)(d:bO N H=bO N y)(c:¬(H<N.size/\de (aB N H)=false))(e:y<H) :
  bC N a=(⟨N.extract y H,0,false,y⟩,H):=by grind [bO,skip,kQ,bC]
theorem QS :
  (∃h:H<l.size,de ((l[H]'h).toNat:Int)=false/\fq ((l[H]'h).toNat:Int)=true/\bO l (H+1)=bO l H) ∨
  (∃h:H<l.size,de ((l[H]'h).toNat:Int)=false/\fq ((l[H]'h).toNat:Int)=false) ∨
  (∃h:H<l.size,de ((l[H]'h).toNat:Int)=true)∨(¬H<l.size/\decide ((H:Int)<(l.size:Int))=false):=by grind [bA,de,aB,fq,yZ]
def pm(n:Int):Bool:=decide (33<=n)&&decide (n<=126) && !(n==36)
def lE(s:Vq):Bool:=decide (1<=s.size)&&decide (s.size<=8)&&(List.range s.size).all (λi=>pm (aB s i))
def jX(n d:Vq):Int:=if lE n=false then 2 else if 1024<d.size then 3 else 0
theorem vh(h:l.size<1∨8<l.size):lE l=false:=by grind [lE]
theorem KP(h:H<l.size)(a:pm (aB l H)=false):lE l=false:=by grind [lE,pm,aB]
theorem Ia(a:1<=l.size)(b:l.size<=8)(h:∀i,i<l.size->pm (aB l i)=true):lE l=true:=by grind [lE,pm,aB]
theorem tQ(s:l.size<=1073741824) :
    br 75 #[J l] n (gG (bool (lE l)) n):=by
  by_cases f:1<=l.size
  · by_cases j:l.size<=8
    · go_enter func75,ntmps75;go_wp2;go_loopg [3] l.size (λg i wr=>∃k:Nat,k<=l.size/\g=l.size-k/\i=Y k/\Z (∀i,i<k->pm (aB l i)=true)/\wr=n);{exact⟨0,by omega,by omega,rfl,λi h=>by omega,rfl⟩};obtain⟨k,r,q,rfl,a,rfl⟩:=hrel;by_cases c:k<l.size
      · (have p:∀b:Bool,pm (l[k].toNat:Int)=b->pm (aB l k)=b:=λb h=>by grind [bA]);have d:Z (∀b:Bool,pm (l[k].toNat:Int)=b->pm (aB l k)=b):=p;go_wp2
        all_goals first
          | (go_ret;refine⟨aT ?_,rfl⟩;rw[KP l k c (d.o false ?_)];first | (simp[pm];omega) | (simp[pm];simp at *;omega))
          | (go_roundg (l.size-(k+1))
             case measure=>omega
             case rel =>
               refine⟨k+1,by omega,rfl,by go_num,?_,rfl⟩;intro i m;by_cases e:i=k
               · grind [pm]
               · exact a i (by omega))
      {go_wp2;go_ret;exact⟨aT (Ia l f j (λi m=>a i (by omega))).symm,rfl⟩}
    {go_enter func75,ntmps75;go_wp2;(all_goals go_ret);all_goals exact⟨aT (vh l (VO (by omega))).symm,rfl⟩}
  {go_enter func75,ntmps75;go_wp2;(all_goals go_ret);all_goals exact⟨aT (vh l (VS (by omega))).symm,rfl⟩}
theorem rU(b:T.size<=1073741824)(f:l.size<=4294967296) :
    br 47 #[J T,J l] n (gG (Y (jX T l)) n):=by cases a:lE T;{go_enter func47,ntmps47;go_wp2_with fail;refine(tQ T _ b).mono ?_;rintro e d ⟨rfl,rfl⟩;go_wp2;go_ret;exact⟨aH (by simp[jX,a]),rfl⟩};{by_cases c:1024<l.size;all_goals(go_enter func47,ntmps47;go_wp2_with fail;refine(tQ T _ b).mono ?_;rintro e d ⟨rfl,rfl⟩;go_wp2;go_ret;exact⟨aH (by simp[jX,a,c]),rfl⟩)}
def cK(fs:Fs)(i:Nat):Vq:=(fs.getD i (⟨#[]⟩,⟨#[]⟩)).1
def aC(fs:Fs)(i:Nat):Vq:=(fs.getD i (⟨#[]⟩,⟨#[]⟩)).2
def vV(fs:Fs):List Value :=
  [J (cK fs 0),J (aC fs 0),J (cK fs 1),J (aC fs 1),J (cK fs 2),J (aC fs 2),J (cK fs 3),J (aC fs 3),Y fs.length]
def cU(w:World)(v t:Nat)(fs:Fs)(more:List Value):Prop:=w.heap[v]?=some (aK (vV fs++more).toArray t)/\fs.length<=4
theorem cU.name{a:Fs}(h:cU w b f a m)(i:Nat)(c:i<4) :
    w.cell? (X b (i*2))=some (J (cK a i))/\w.cell? (X b (i*2+1))=some (J (aC a i)):=by
  (constructor <;> rw[ay h.1])
  all_goals
    match i,c with
    | 0,_=>rfl
    | 1,_=>rfl
    | 2,_=>rfl
    | 3,_=>rfl
theorem cU.count{a:Fs}(h:cU w b f a m) :
    bY w b 8 (Y a.length):=by exact iY h.1 rfl
def dh(n:Vq):Fs->Nat->Int
  | [],_=>-1
  | f :: r,i=>if(f.1.toList==n.toList)=true then i else dh n r (i+1)
def gL(fs:Fs)(n:Vq):Int:=dh n fs 0
theorem M8{α:Type}(l:List α)(k:Nat)(h:k<l.length):l.drop k=l[k] :: l.drop (k+1):=by simp
theorem CP(a:Fs)(k:Nat)(h:k<a.length):cK a k=a[k].1:=by grind [cK]
theorem Sk(a:Fs)(n:Vq)(k:Nat)(h:k<a.length)(c:gL a n=dh n (a.drop k) k)(b:((cK a k).toList==n.toList)=true):gL a n=k:=by grind [M8,dh,CP]
theorem OF(a:Fs)(n:Vq)(k:Nat)(h:k<a.length)(c:gL a n=dh n (a.drop k) k)(b:((cK a k).toList==n.toList)=false):gL a n=dh n (a.drop (k+1)) (k+1):=by grind [M8,dh,CP]
theorem OG(a:Fs)(n:Vq)(k:Nat)(h:¬k<a.length)(b:gL a n=dh n (a.drop k) k):gL a n=-1:=by rw[b,WJ (by omega),dh]
theorem oB(a:Fs)(d:List Value)(n:Vq)(w:World)(h:cU w y H a d) :
    br 48 #[bB y,J n] w (gG (Y (gL a n)) w):=by have j:=h.count;have l:=h.2;go_enter func48,ntmps48;go_wp2;go_loopg [5] a.length (λg i wr=>∃k:Nat,k<=a.length/\g=a.length-k/\i=Y k/\Z (gL a n=dh n (a.drop k) k)/\wr=w);{exact⟨0,by omega,by omega,rfl,rfl,rfl⟩};obtain⟨k,p,m,rfl,b,rfl⟩:=hrel;by_cases c:k<a.length;{obtain⟨q,r⟩:=h.name k (by omega);cases f:((cK a k).toList==n.toList);{have e:Z _:=OF a n k c b f;go_wp2;go_roundg (a.length-(k+1));{grind};omega};{have e:Z _:=Sk a n k c b f;go_wp2;go_ret;exact⟨aH e.o.symm,rfl⟩}};{have e:Z _:=OG a n k c b;go_wp2;go_ret;exact⟨aH e.o.symm,rfl⟩}
theorem cU.free{a:Fs}(h:cU w b f a m)(i:Nat):w.frozen? (X b i)=false:=aE h.1 i
theorem cU.ZE{a:Fs}{S:Vu}(h:cU w b f a m)(c:ab S w x)(d:b∉S):cU x b f a m :=
 ⟨c.get h.1 d,h.2⟩
theorem cU.lt{a:Fs}(h:cU w b f a m):b<w.heap.size:=ak h.1
theorem Sf(b:Fs)(c:List Value)(w:World)(h:cU w a y b c)(g:H<b.length) :
  br 133 #[bB a,Y H] w (mu (agg #[J (cK b H),J (aC b H)]) w):=by have d:=h.count;have e:=h.2;have f:=h.lt;obtain⟨i,j⟩:=h.name H (by omega);go_enter func133,ntmps133;go_wp2;exact VQ (v:=agg #[J (cK b H),J (aC b H)]) (by simp[results,results133,go_sem]) rfl ⟨rfl,(ab.refl _ _).alloc _⟩
theorem zcG(f:Fs)(e:List Value)(n d:Vq)(h:f.length<4) :
  (((vV f++e).set (f.length*2) (J n)).set (f.length*2+1) (J d)).set 8 (Y ((f.length:Int)+1))=vV (f++[(n,d)])++e:=by
 match f,h with
 | [],_=>rfl
 | [a],_=>rfl
 | [a,b],_=>rfl
 | [a,b,c],_=>rfl
theorem zcH(g:Fs)(f:List Value)(n d:Vq)(k:Nat)(i:k<g.length)(h:g.length<=4) :
  ((vV g++f).set (k*2) (J n)).set (k*2+1) (J d)=vV (g.set k (n,d))++f:=by
 match g,h,k,i with
 | [a],_,0,_=>rfl
 | [a,b],_,0,_=>rfl
 | [a,b],_,1,_=>rfl
 | [a,b,c],_,0,_=>rfl
 | [a,b,c],_,1,_=>rfl
 | [a,b,c],_,2,_=>rfl
 | [a,b,c,e],_,0,_=>rfl
 | [a,b,c,e],_,1,_=>rfl
 | [a,b,c,e],_,2,_=>rfl
 | [a,b,c,e],_,3,_=>rfl
theorem cU.added{a:Fs}(h:cU w b f a m)(n d:Vq)(e:a.length<4) :
  cU (((w.setCell (X b (a.length*2)) (J n)).setCell (X b (a.length*2+1)) (J d)).setCell (X b 8) (Y ((a.length:Int)+1))) b f (a++[(n,d)]) m:=by have c:=ac (ac (ac h.1 (a.length*2) (J n)) (a.length*2+1) (J d)) 8 (Y ((a.length:Int)+1));refine⟨?_,by grind⟩;grind [zcG]
theorem cU.turned{a:Fs}(h:cU w b f a m)(n d:Vq)(k:Nat)(e:k<a.length) :
  cU ((w.setCell (X b (k*2)) (J n)).setCell (X b (k*2+1)) (J d)) b f (a.set k (n,d)) m:=by have c:=ac (ac h.1 (k*2) (J n)) (k*2+1) (J d);refine⟨?_,by simpa using h.2⟩;rw[c];simp only[List.setIfInBounds_toArray,zcH a m n d k e h.2]
theorem zaR(c:Fs)(b:List Value)(w:World)(h:cU w a y c b)(i:c.length<4) :
  br 49 #[bB a,agg #[J T,J l]] w λe f=>e=cA (tuple #[])/\cU f a y (c++[(T,l)]) b/\ab [a] w f:=by have d:=h.count;have g:=h.free;have j:=h.lt;obtain⟨k,m⟩:=h.name c.length (by omega);go_enter func49,ntmps49;go_wp2;go_region;(all_goals go_wp2);(all_goals go_end0);exact⟨rfl,(h.added T l i).ZE (bH.alloc _ |>.drew) (by simp),((((ab.refl _ _).sl1 _).sl1 _).sl1 _).alloc _ |>.drew⟩
def lW(fs:Fs)(n d:Vq):Int×Fs :=
 if jX n d≠0 then(jX n d,fs)
 else if 0<=gL fs n then(0,fs.set (gL fs n).toNat (n,d))
 else if 4<=fs.length then(1,fs) else(0,fs++[(n,d)])
theorem GZ(a:Fs)(i:Nat):dh l a i=-1∨((i:Int)<=dh l a i/\dh l a i<i+a.length):=by induction a generalizing i with|nil=>exact VS rfl|cons f r b=>grind [dh]
theorem GY(a:Fs):gL a l=-1∨∃k:Nat,k<a.length/\gL a l=k:=by rcases GZ l a 0 with h | h;{exact VS h};{refine VO ⟨(gL a l).toNat,?_,?_⟩ <;> (unfold gL;omega)}
theorem zck(b:Fs)(c:List Value)(w:World)(h:cU w a y b c)(p:T.size<=1073741824)(n:l.size<=4294967296) :
  br 15 #[bB a,J T,J l] w λe u=>e=cA (Y (lW b T l).1)/\cU u a y (lW b T l).2 c/\ab [a] w u:=by have r:=h.count;have B:=h.lt;have t:=h.2;by_cases g:jX T l=0;{rcases GY T b with i | ⟨k,A,i⟩;{by_cases s:4<=b.length;{have f:Z (lW b T l=(1,b)):=(by show lW b T l=_;simp[lW,g,i,s]);have m:Z (jX T l=0):=g;have d:Z (gL b T=-1):=i;go_enter func15,ntmps15;go_wp2_with fail;refine(rU T l _ p n).mono ?_;rintro e j ⟨rfl,rfl⟩;rw[m.o];go_wp2_with fail;refine(oB a y b c T _ (by exact h.ZE (bH.alloc _) (by simp))).mono ?_;rintro e j ⟨rfl,rfl⟩;rw[d.o];go_wp2;go_ret;exact⟨aH (by rw[f.o]),by rw[f.o];exact h.ZE (bH.alloc _) (by simp),(ab.refl _ _).alloc _⟩};{have f:Z (lW b T l=(0,b++[(T,l)])):=(by show lW b T l=_;simp[lW,g,i,s]);have m:Z (jX T l=0):=g;have d:Z (gL b T=-1):=i;go_enter func15,ntmps15;go_wp2_with fail;refine(rU T l _ p n).mono ?_;rintro e j ⟨rfl,rfl⟩;rw[m.o];go_wp2_with fail;refine(oB a y b c T _ (by exact h.ZE (bH.alloc _) (by simp))).mono ?_;rintro e j ⟨rfl,rfl⟩;rw[d.o];go_wp2_with fail;refine(zaR a y T l b c _ (by exact h.ZE (bH.alloc _) (by simp)) (by omega)).mono ?_;rintro e E ⟨rfl,v,q⟩;go_wp2;go_ret;exact⟨aH (by rw[f.o]),by rw[f.o];exact v,((ab.refl _ _).alloc _).trans q⟩}};{have f:Z (lW b T l=(0,b.set k (T,l))):=(by show lW b T l=_;simp[lW,g,i]);have m:Z (jX T l=0):=g;have d:Z (gL b T=k):=i;obtain⟨C,D⟩:=h.name k (by omega);have z:=h.free;go_enter func15,ntmps15;go_wp2_with fail;refine(rU T l _ p n).mono ?_;rintro e j ⟨rfl,rfl⟩;rw[m.o];go_wp2_with fail;refine(oB a y b c T _ (by exact h.ZE (bH.alloc _) (by simp))).mono ?_;rintro e j ⟨rfl,rfl⟩;rw[d.o];go_wp2_with fail;go_region;(all_goals go_wp2);(all_goals go_ret);exact⟨aH (by rw[f.o]),by rw[f.o];exact(h.turned T l k A).ZE (bH.alloc _ |>.drew) (by simp),(((ab.refl _ _).sl1 _).sl1 _).alloc _ |>.drew⟩}};{(have f:Z (lW b T l=(jX T l,b)):=by show lW b T l=_;simp[lW,g]);(have x:(jX T l != 0)=true:=by simp[g]);go_enter func15,ntmps15;go_wp2_with fail;refine(rU T l _ p n).mono ?_;rintro e j ⟨rfl,rfl⟩;go_wp2;go_ret;exact⟨aH (by rw[f.o]),by rw[f.o];exact h,ab.refl _ _⟩}
structure Hd where
 ao:Vt
 cap:Nat
def Hd.ZF(h:Hd):Option Nat:=h.ao.map (·.block)
structure gY where
 e:TypeId
 size:Nat
 n:Nat
 xs:List Value
def aO(w:World)(h:Hd)(r:gY):Prop:=w.ownsRow 0 r.e r.size (Q h.ao r.n h.cap) r.n r.xs
theorem Fl(h:Hd)(n:Nat):(Q h.ao n h.cap).ownBlock=h.ZF:=by unfold Hd.ZF;cases h.ao <;> rfl
theorem aO.lt{h:Hd}{r:gY}(o:aO w h r){k:Nat}(a:h.ZF=some k):k<w.heap.size :=
 (World.ownsRow.lt (h:=o) k (by rwa [Fl])).2
theorem aO.Zw{w':World}{h:Hd}{r:gY}(o:aO w h r)(n:∀k,h.ZF=some k->w'.heap[k]?=w.heap[k]?):aO w' h r:=by refine⟨o.1,?_⟩;rcases o.2 with l | ⟨g,a,b,m,i,j,c,d,e,f⟩;{grind};grind [Hd.ZF]
theorem aO.ZC{h:Hd}{r:gY}(o:aO w h r) :
  (h=⟨none,0⟩/\r.n=0/\r.xs=[])∨∃g a,h.ao=some (aD g)/\w.heap[g]?=some (aK a r.e)/\r.n<=h.cap/\h.cap<=maxLen/\a.size=h.cap*r.size/\a.toList.take (r.n*r.size)=r.xs:=by rcases o.2 with ⟨c,b⟩ | ⟨g,d,a,c,q,s,k,l,m,p⟩;{left;injection c with f i j;refine⟨by cases h;simp_all,b,Wb (by rw[o.1,b];simp)⟩};grind
theorem bD:((aD y):Addr).add H=(X y H):=by simp[Addr.add];grind
theorem aO.cell{h:Hd}{r:gY}(o:aO w h r)(c:h.ao=some (aD b))(j:Nat)(u:Value)(a:r.xs[j]?=some u):bY w b j u:=by have:=o.cells (g:=b) (by grind [Fl,Hd.ZF]) j u a;rw[bD]at this;exact this
theorem aF{v:List Oper}(M:s.guard=none)(F x:Operand)(t:TypeId)(y:s.op=Op.call { callee:=Callee.builtin Builtin.append,args:=#[F,x],argTypes:=#[t,t] })(i:TypeInfo)(z:Value)(f:Nat)(h:Hd)(r:gY)(G:D.underlying t=some (.slice r.e))(H:D.info? r.e=some i)(U:i.zero=some z)(I:i.size=r.size)(V:i.bytes=f)(W:z.cells.size=r.size)(h7:0<r.size)(hs:z0.eval F=Q h.ao r.n h.cap)(o:aO n h r)(B:Addr)(m c:Nat)(d:List Value)(O:z0.eval x=Q (some B) m c)(N:d.length=m*r.size)(L:∀j u,d[j]?=some u->n.cell? (B.add j)=some u)(w:∀u∈d,u.oneCell'=true)(hm:0<m)(b1:r.n+m<=maxLen)(b2:(r.n+m)*f<=140737488355328)(K:∀g a p,aO p ⟨some (aD g),a⟩ ⟨r.e,r.size,r.n+m,r.xs++d⟩->n.grownBy p h.ZF->(h.ZF=some g∨n.heap.size<=g)->wpList D z7 z8 v (z0.put s.dst (Q (some (aD g)) (r.n+m) a)) p) :
  wpList D z7 z8 (s :: v) z0 n:=by rcases o.ZC with ⟨E,T,e3⟩ | ⟨g,C,E,T,e3,e4,e5,e6⟩;{refine wpList_append_grows n M F x t y r.e i z r.size f G H U I V W h7 none 0 0 [] (by grind) (by simp) (by simp) (by simp) B m c d O N L w (by omega) (by omega) (by grind) ?_;intro v' p A l;rcases A.2 with ⟨_,q⟩ | ⟨g,a,C,P,R,q3,q4,q5,q6,q7⟩;{omega};{have:=K g a p ⟨by grind,VO ⟨g,a,C,by simp,Wp _,q3,by grind,q5,q6,by grind⟩⟩ (E ▸ l) (VO R);rw[P];simpa [T] using this}};{by_cases hf:r.n+m<=h.cap;{refine wpList_append_fits n M F x t y 0 r.e i r.size G H I g r.n h.cap r.xs (by grind) (by have:=o;unfold aO at this;rw[E]at this;exact this) B m c d O N L w hf ?_;intro p A l;exact K g h.cap p A (by unfold Hd.ZF;rwa [E]) (by grind [Hd.ZF])};{refine wpList_append_grows n M F x t y r.e i z r.size f G H U I V W h7 (some (aD g)) r.n h.cap r.xs (by grind) (by simp) o.1 (by intro b hb j u hj;cases hb;rw[bD];exact o.cell E j u hj) B m c d O N L w (by omega) b1 b2 ?_;intro v' p A l;rcases A.2 with ⟨_,q⟩ | ⟨g',a,S,P,R,q3,q4,q5,q6,q7⟩;{omega};{have:=K g' a p ⟨A.1,by grind⟩ ⟨l.os,l.tape,l.output,l.size,λk hk _=>l.block k hk (by simp)⟩ (VO R);rwa [P]}}}
theorem Cr(o E F c:TypeId)(g f a:Nat)(h:Hd)(r:gY)(b:Array Value)(t:TypeId)(C:D.underlying o=some (.slice c))(I:(D.info? c).map (·.size)=some a)(H:r.size=a)(w:n.heap[g]?=some (aK b t))(l:aO n h r)(B:b.size=r.n*a)(u:∀v∈r.xs,v.oneCell'=true) :
  (Builtin.copy_ #[o,E] F #[Q (some (aD g)) r.n f,Q h.ao r.n h.cap]).run D n=.ok (goInt r.n) (n.setRow g r.xs.toArray):=by (have z:r.xs.length=r.n*a:=by have:=l.1;grind);(have d:=run_storeCells_at D g 0 t r.xs 0 b n w (by omega) u;have p:(b.toList.take (0+0)++r.xs++b.toList.drop (0+0+r.xs.length))=r.xs:=by simp_all);(rw[p]at d;have k:(Builtin.firstCells a r.n (Q h.ao r.n h.cap)).run D n=.ok r.xs.toArray n:=by rcases l.ZC with ⟨e,G,q⟩ | ⟨s,m,e,_⟩;{rw[e,q];rfl};{rw[e];exact run_firstCells_some n a r.n (aD s) r.n h.cap r.xs z (λj v y=>by rw[bD];exact l.cell e j v y)});cases A:D.info? c with|none=>grind|some i=>(have x:i.size=a:=by grind);simp[Builtin.copy_,run_underlying C,Builtin.lenOf,sizeOf,typeInfo,A,x,k,d]
theorem Id(h:ab v w x)(e:b∈v∨w.heap.size<=b)(c:Array Value):ab v w (x.setRow b c) :=
 ⟨h.os,h.tape,h.output,by have:=h.size;simp_all,λk a d=>by
  rw[setRow_other x b k c (by grind)];exact h.block k a d⟩
theorem mJ{P:Program}(d j k:TypeId)(g c:Nat)(h:Hd)(r:gY)(a:Array Value)(t:TypeId)(p:P.underlying d=some (.slice r.e))(o:(P.info? r.e).map (·.size)=some r.size)(f:n.heap[g]?=some (aK a t))(m:aO n h r)(i:a.size=r.n*r.size)(l:∀v∈r.xs,v.oneCell'=true) :
  ∃b,(Builtin.copy_ #[d,j] k #[Q (some (aD g)) r.n c,Q h.ao r.n h.cap]).run P n=.ok (goInt r.n) b/\b.heap[g]?=some (aK r.xs.toArray t)/\ab [g] n b/\b.heap.size=n.heap.size :=
 ⟨_,by grind [Cr],setRow_heap n g _ _ t _ f,Id (ab.refl ..) (VS (by simp)) _,by simp⟩
theorem aO.made{r:gY}(c:w.heap[b]?=some (aK r.xs.toArray r.e))(a:r.xs.length=r.n*r.size)(d:r.n<=maxLen):aO w ⟨some (aD b),r.n⟩ r :=
 ⟨a,VO ⟨b,r.n,r.xs.toArray,rfl,Wp _,c,Vw _,d,by simpa using a,by simp[<-a]⟩⟩
theorem rC{P:Program}(t B:TypeId)(i:TypeInfo)(z:Value)(d:Nat)(h:Hd)(r:gY)(D:P.underlying t=some (.slice r.e))(E:P.info? r.e=some i)(L:i.zero=some z)(F:i.size=r.size)(M:i.bytes=d)(N:z.cells.size=r.size)(O:0<r.size)(l:aO n h r)(v:Addr)(m c:Nat)(b:List Value)(H:b.length=m*r.size)(G:∀j u,b[j]?=some u->n.cell? (v.add j)=some u)(y:∀u∈b,u.oneCell'=true)(hm:0<m)(W:r.n+m<=maxLen)(b2:(r.n+m)*d<=140737488355328) :
  ∃g a o,(Builtin.append_ #[t,t] B #[Q h.ao r.n h.cap,Q (some v) m c]).run P n=.ok (Q (some (aD g)) (r.n+m) a) o /\
   aO o ⟨some (aD g),a⟩ ⟨r.e,r.size,r.n+m,r.xs++b⟩/\n.grownBy o h.ZF/\(h.ZF=some g∨n.heap.size<=g):=by rcases l.ZC with ⟨x,A,C⟩ | ⟨g,w,x,A,C,e4,e5,e6⟩;{have⟨v',o,p,s,f,_⟩:=run_append_own (P:=P) n n.heap.size t B r.e i z r.size d D E L F M N O (Q none 0 0) 0 [] (VN n _ r.e r.size) v m c b H G y (by omega) (by grind) (Vw _);rcases s.2 with ⟨_,q⟩ | ⟨g,a,w,q1,I,R,S,T,U,V⟩;{omega};{refine⟨g,a,o,?_,⟨by have:=s.1;simpa [C,A] using this,VO ⟨g,a,w,by simp,Wp _,R,by simpa [A] using S,T,U,by simpa [A,C] using V⟩⟩,?_,VO I⟩;{grind};{rwa [x]}}};{by_cases hf:r.n+m<=h.cap;{have⟨o,p,s,f⟩:=run_append_fits (P:=P) n 0 t B r.e i r.size D E F g r.n h.cap r.xs (by have:=l;unfold aO at this;rw[x]at this;exact this) v m c b H G y hf;exact⟨g,h.cap,o,by grind,s,by unfold Hd.ZF;rwa [x],by grind [Hd.ZF]⟩};{have⟨v',o,p,s,f⟩:=run_append_arg_grows (P:=P) n t B r.e i z r.size d D E L F M N O (aD g) r.n h.cap r.xs l.1 (by intro j u hj;rw[bD];exact l.cell x j u hj) v m c b H G (by omega) W b2;rcases s.2 with ⟨_,q⟩ | ⟨g',a,K,q1,I,R,S,T,U,V⟩;{omega};{exact⟨g',a,o,by grind,⟨s.1,by grind⟩,⟨f.os,f.tape,f.output,f.size,λk hk _=>f.block k hk (by simp)⟩,VO I⟩}}}
theorem aW{K:Act->World->Prop}{E:Prop}(O:s.guard=none)(v x:Operand)(t:TypeId)(q:s.op=Op.call { callee:=Callee.builtin Builtin.append,args:=#[v,x],argTypes:=#[t,t] })(i:TypeInfo)(z:Value)(b:Nat)(h:Hd)(r:gY)(B:D.underlying t=some (.slice r.e))(C:D.info? r.e=some i)(F:i.zero=some z)(G:i.size=r.size)(H:i.bytes=b)(I:z.cells.size=r.size)(L:0<r.size)(S:z0.eval v=Q h.ao r.n h.cap)(f:aO w h r)(o:Addr)(m c:Nat)(a:List Value)(U:z0.eval x=Q (some o) m c)(R:a.length=m*r.size)(N:∀j u,a[j]?=some u->w.cell? (o.add j)=some u)(p:∀u∈a,u.oneCell'=true)(P:0<m)(y:r.n+m<=maxLen)(A:(r.n+m)*b<=140737488355328)(M:∀g d l,aO l ⟨some (aD g),d⟩ ⟨r.e,r.size,r.n+m,r.xs++a⟩->w.grownBy l h.ZF->(h.ZF=some g∨w.heap.size<=g)->K (z0.put s.dst (Q (some (aD g)) (r.n+m) d)) l) :
  if Region.wanted s (yielded z7 z0.tmps)=true then Oper.wp D s z0 w K z8 else E:=by (have T:Region.wanted s (yielded z7 z0.tmps)=true:=by simp[Region.wanted,O]);rw[VK T];have⟨g,d,l,k,V,W,r3⟩:=rC (P:=D) w t s.type i z b h r B C F G H I L f o m c a R N p P y A;unfold Oper.wp;simp[execOp,q,resolve,invoke,builtin,S,U,k,Result.andThen];exact M g d l V W r3
theorem cq{P:Program}(t e:TypeId)(i:TypeInfo)(z:Value)(f:P.underlying t=some (.slice e))(c:P.info? e=some i)(g:i.zero=some z)(a b:Nat)(d:i.size=b)(j:i.bytes*a<=281474976710656)(k:a<=1073741824) :
  (Instr.makeSlice t (Y a) (Y a)).run P n=.ok (Q (some (aD n.heap.size)) a a) (n.alloc (aK (madeCells z.cells (a*b)) e)):=by have:=run_make (P:=P) n t e i z f c g i64 i64 a a (by omega) (Int.le_refl _) (by omega) (by omega);grind
def lK(w:World)(x:Nat)(fs:Fs)(rep:Bool)(a b c:Value):Prop:=cU w x 53 fs [bool rep,a,b,c]
def zbX:Value:=Q none 0 0
def i7(w:World)(x:Nat)(fs:Fs):Prop:=lK w x fs false zbX zbX zbX
def cH(w:World)(x:Nat)(fs:Fs):Prop:=∃rep a b c,lK w x fs rep a b c
theorem i7.anyR{a:Fs}(h:i7 w b a):cH w b a:=⟨_,_,_,_,h⟩
theorem lK.anyR{a:Fs}(h:lK w b a z1 d I g):cH w b a:=⟨_,_,_,_,h⟩
theorem i7.ZE{a:Fs}{S:Vu}(h:i7 w b a)(k:ab S w x)(c:b∉S):i7 x b a:=cU.ZE h k c
theorem cH.ZE{d:Fs}{S:Vu}(h:cH w b d)(k:ab S w x)(f:b∉S):cH x b d:=by have⟨r,a,e,c,h⟩:=h;exact⟨r,a,e,c,cU.ZE h k f⟩
theorem cH.lt{d:Fs}(h:cH w b d):b<w.heap.size:=by have⟨r,a,e,c,h⟩:=h;exact cU.lt h
theorem lK.cells{a:Fs}(h:lK w b a z1 d I g) :
  bY w b 9 (bool z1)/\bY w b 10 d/\bY w b 11 I/\bY w b 12 g:=by refine⟨?_,?_,?_,?_⟩ <;> exact iY h.1 rfl
def JE(w:World)(x:Nat)(rep:Bool)(a b c:Value):World:=(((w.setCell (X x 9) (bool rep)).setCell (X x 10) a).setCell (X x 11) b).setCell (X x 12) c
theorem lK.turn{i:Fs}(h:lK w b i z1 d I g)(a:Bool)(c e f:Value):lK (JE w b a c e f) b i a c e f:=by refine⟨?_,h.2⟩;unfold JE;rw[ac (ac (ac (ac h.1 9 (bool a)) 10 c) 11 e) 12 f];rfl
theorem Mt(h:ab v w x)(d:b∈v∨w.heap.size<=b)(e:Bool)(a f c:Value):ab v w (JE x b e a f c) :=
 (((h.setCell d _).setCell d _).setCell d _).setCell d _
theorem Nv:br 7 #[] n λe a=>e=cA (bB n.heap.size)/\i7 a n.heap.size []/\aJ n a:=by go_enter func7,ntmps7;go_wp2;go_ret;exact⟨rfl,⟨Vx ..,by simp⟩,(ab.refl ..).alloc _⟩
theorem GN(f:Fs)(w:World)(h:cH w H f) :
  br 16 #[bB H] w λe g=>e=cA (tuple #[])/\i7 g H f/\ab [H] w g:=by have⟨l,a,b,c,h⟩:=h;have⟨m,i,j,k⟩:=h.cells;have n:=cU.free h;have d:Z _:=h.turn false (Q none 0 0) (Q none 0 0) (Q none 0 0);unfold JE at d;go_enter func16,ntmps16;go_wp2;go_end0;exact⟨rfl,d,Mt (ab.refl ..) (VS (by simp)) ..⟩
theorem vX(f:Fs)(w:World)(h:cH w y f)(s:T.size<=1073741824)(r:l.size<=4294967296) :
  br 8 #[bB y,J T,J l] w λe n=>e=cA (Y (lW f T l).1)/\cH n y (lW f T l).2/\((lW f T l).1=0->i7 n y (lW f T l).2)/\ab [y] w n:=by have⟨i,a,b,c,h⟩:=h;have d:Z _:=(zck y 53 T l f [bool i,a,b,c] w h s r);generalize lW f T l=t at *;have⟨q,j⟩:=t;simp only at d ⊢;cases u:(q==0);{go_enter func8,ntmps8;go_wp2_with fail;refine VC d ?_;rintro e p ⟨rfl,k,g⟩;go_wp2;go_ret;exact⟨rfl,⟨i,a,b,c,k⟩,by grind,g⟩};{go_enter func8,ntmps8;go_wp2_with fail;refine VC d ?_;rintro e p ⟨rfl,k,g⟩;go_wp2_with fail;refine(GN y j p ⟨i,a,b,c,k⟩).mono ?_;rintro e v ⟨rfl,o,m⟩;go_wp2;go_ret;exact⟨rfl,o.anyR,λ_=>o,g.trans m⟩}
end Go.Proofs.YtnbalopedcgpcaaGreat
