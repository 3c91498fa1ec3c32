import Derived.Test.YtpdholcaobgofaaGreatChecked
import Derived.WalkKit
import Derived.WalkSpells
import Derived.WalkLawsBesides
import Derived.Deep.QuietTactic
import Derived.BigQuiet
import Derived.Deep.LoopGhost
import Derived.Laws.CopyRow
import Derived.Laws.MakeOwn
import Derived.Deep.RegionLaw
import Derived.Deep.RegionHeld3
import Derived.Deep.CutRange
namespace Go.Proofs.YtpdholcaobgofaaGreat
open Go.RowKit Tryz
open Value IntKind Ending
set_option linter.all false
set_option maxHeartbeats 0
abbrev Vx:=ByteArray
abbrev Vy:=List ByteArray
abbrev Vz:=Option Addr
abbrev VB:=List Nat
variable{y:VB}{w T:World}{b f y2 y7:Nat}{I:Array Value}{zt:Obj}{D:Program}{v M t z5 z8 y3:Value}{z7:Bool}{y4:Int}{L a:Vx}{y5:Ending->World->Prop}{m:List Value}{y6:Array Oper}{z4:Oper}{z6:Act}{y8:Exit->Act->World->Prop}{y0:Nat->Int}{y1:Vz}(N:Vx)(s:Nat)(i:Int)(x:Nat)(S l:Vx)(n:World)(zf:Vz)(d H:Nat)
def Z(p:Prop):Prop:=p
theorem Z.o{p:Prop}(h:Z p):p:=h
abbrev VC:=@Nat.le_refl
abbrev VD:=@Go.heap_alloc_new
abbrev VG:=@Nat.lt_of_lt_of_le
abbrev VH:=@Go.World.ownsRow_nil
abbrev VI:=@List.getElem?_eq_getElem
abbrev VJ:=@Go.bodyPost_ret
abbrev VK:=@Nat.le_trans
abbrev VL:=@Go.Calls.mono
abbrev VM:=@List.getD_eq_getElem?_getD
abbrev VN:=@Go.RowKit.Below.heap_setCell
abbrev VO:=@if_pos
abbrev VP:=@Nat.one_pos
abbrev VQ:=@List.length_append
abbrev VR:=@List.mem_singleton
abbrev VS:=@if_neg
abbrev VT:=@Go.info_parts
abbrev VU:=@Go.Calls.quiet_of_same
abbrev VW:=@Or.inr
abbrev VX:=@List.take_succ_eq_append_getElem
abbrev VY:=@Or.inl
abbrev VZ:=@List.mem_range
abbrev V3:=@List.mem_of_find?_eq_some
abbrev V4:=@List.getElem?_eq_some_iff
abbrev V5:=@Nat.zero_le
abbrev V6:=@List.drop_eq_getElem_cons
abbrev V7:=@List.mem_append
abbrev V8:=@List.append_nil
abbrev V9:=@List.mem_cons
abbrev Wa:=@List.eq_nil_of_length_eq_zero
abbrev Wb:=@List.getElem_mem
abbrev Wc:=@Go.World.cell?_of_block
abbrev Wd:=@List.setIfInBounds_toArray
abbrev We:=@Bool.and_eq_true
abbrev Wf:=@List.length_map
abbrev Wg:=@List.map_append
abbrev Wh:=@List.getElem?_append_left
abbrev Wi:=@List.getElem_of_mem
abbrev Wj:=@List.not_mem_nil
abbrev Wk:=@List.filter_append
abbrev Wl:=@List.take_length
abbrev Wm:=@Nat.mul_le_mul
abbrev Wn:=@List.length_cons
abbrev Wo:=@List.range_succ
abbrev Wp:=@List.getElem?_append_right
abbrev Wq:=@Go.size_madeCells
abbrev Wr:=@Bool.or_eq_true
abbrev Ws:=@List.drop_of_length_le
abbrev Wt:=@Go.IntKind.wrap_i64
abbrev Wu:=@List.length_set
abbrev Wv:=@Bool.false_eq_true
abbrev Ww:=@List.mem_filter
abbrev Wx:=@List.mem_cons_self
abbrev Wy:=@Go.ByteArray.toList_eq
abbrev Wz:=@List.map_congr_left
abbrev WA:=@beq_eq_false_iff_ne
abbrev WB:=@List.length_nil
abbrev WC:=@List.ext_getElem?
abbrev WD:=@List.getElem?_map
abbrev WE:=@List.getElem?_eq_none
abbrev WF:=@Nat.add_zero
abbrev WG:=@List.mem_map
abbrev WH:=@List.mem_of_getElem?
abbrev WJ:=@List.take_of_length_le
abbrev WK:=@List.all_eq_true
abbrev WL:=@List.any_eq_true
abbrev WM:=@List.flatMap_append
abbrev WN:=@List.getElem?_set
abbrev WO:=@Nat.le_of_lt
abbrev WP:=@or_false
abbrev WQ:=@Int.toNat_natCast
abbrev WR:=@Bool.true_and
abbrev WS:=@Go.wp_loop_rounds
abbrev WT:=@Bool.or_eq_false_iff
abbrev WU:=@List.mem_append_left
abbrev WV:=@List.take_add_one
abbrev WW:=@List.getElem?_cons_succ
abbrev WX:=@List.getElem?_cons_zero
abbrev WY:=@List.filter_eq_nil_iff
abbrev WZ:=@Nat.sub_self
abbrev Xa:=@Nat.le_of_eq
abbrev Xb:=@List.length_take
abbrev Xc:=@List.length_drop
abbrev Xd:=@List.takeWhile_cons_of_neg
abbrev Xe:=@List.mem_append_right
abbrev Xf:=@List.getLast?_eq_getElem?
abbrev Xg:=@Nat.not_lt_zero
abbrev Xh:=@Bool.eq_iff_iff
abbrev Xi:=@if_false
abbrev Xj:=@Nat.mul_le_mul_right
abbrev Xk:=@List.append_assoc
abbrev Xl:=@List.mem_cons_of_mem
abbrev Xm:=@List.mem_map_of_mem
abbrev Xn:=@List.getElem?_replicate
abbrev Xo:=@decide_eq_true
abbrev Xp:=@Go.rounds_succ
abbrev Xq:=@List.getLast?_eq_some_getLast
abbrev Xr:=@List.drop_eq_nil_of_le
abbrev Xs:=@Nat.add_sub_cancel
abbrev Xt:=@decide_eq_false
abbrev Xu:=@Nat.le_antisymm
abbrev Xv:=@Array.getElem?_setIfInBounds
abbrev Xw:=@List.map_cons
abbrev Xx:=@Array.toList_setIfInBounds
abbrev Xy:=@List.length_dropLast
abbrev Xz:=@List.mem_of_mem_take
abbrev XA:=@List.takeWhile_cons_of_pos
abbrev XB:=@List.map_set
abbrev XC:=@Array.getElem?_eq_getElem
abbrev XD:=@List.getElem?_range
abbrev XE:=@Nat.lt_irrefl
abbrev XF:=@List.nil_append
abbrev XG:=@List.find?_some
abbrev XH:=@Int.tmod_lt_of_pos
abbrev XI:=@List.find?_eq_none
abbrev XJ:=@Go.World.drewN_drewN
abbrev XK:=@List.foldl_append
abbrev XL:=@ByteArray.size_extract
abbrev XM:=@List.pairwise_lt_range
abbrev XN:=@Go.run_convert_bytes_back
abbrev XO:=@List.map_map
abbrev XP:=@List.filter_congr
abbrev XQ:=@List.contains_iff_mem
abbrev XR:=@List.length_filter_le
abbrev XS:=@List.cons_append
abbrev XU:=@Bool.or_assoc
abbrev XV:=@Bool.false_or
abbrev XW:=@Nat.two_pos
abbrev XX:=@Nat.le_succ
abbrev XY:=@List.dropLast_subset
abbrev XZ:=@Nat.mul_one
abbrev X0:=@List.getLast?_concat
abbrev X6:=@List.drop_append_of_le_length
abbrev X9:=@Int.tmod_nonneg
abbrev Ya:=@List.dropLast_concat_getLast
abbrev Yb:=@Nat.succ_pos
abbrev Yc:=@Nat.zero_add
abbrev Yd:=@List.map_nil
abbrev Ye:=@Nat.mul_comm
abbrev Yf:=@Go.World.grownBy.refl
abbrev Yg:=@Go.Calls.quiet_of
abbrev Yh:=@List.filter_filter
abbrev Yi:=@Bool.false_and
abbrev Yj:=@List.pairwise_iff_getElem
abbrev Yk:=@List.any_eq_false
abbrev Yl:=@List.all_eq_false
abbrev Ym:=@List.length_range
abbrev Yn:=@List.take_set
abbrev Yo:=@List.length_filterMap_le
abbrev Yp:=@List.find?_range_eq_some
abbrev Yq:=@Bool.or_false
abbrev Yr:=@List.mem_flatMap
abbrev Ys:=@List.ext_getElem
abbrev Yt:=@List.drop_length
abbrev Yu:=@Array.toList_inj
abbrev Yv:=@Nat.lt_or_ge
abbrev Yw:=@beq_iff_eq
abbrev Yx:=@Int.natCast_add
abbrev Yy:=@Nat.mul_add_div
abbrev Yz:=@Go.run_underlying
abbrev YA:=@Int.le_refl
abbrev YB:=@List.drop_zero
abbrev YC:=@LawfulBEq.eq_of_beq
abbrev YD:=@if_true
abbrev YE:=@Go.run_build
abbrev YF:=@Nat.add_assoc
abbrev YG:=@ByteArray.ext
abbrev Fs:=List (ByteArray×ByteArray)
structure O(S:VB)(w w':World):Prop where
 os:w'.os=w.os
 tape:w'.tape=w.tape
 output:w'.output=w.output
 size:w.heap.size<=w'.heap.size
 block:∀k,k<w.heap.size->k∉S->w'.heap[k]?=w.heap[k]?
theorem O.refl(S:VB)(w:World):O S w w:=⟨rfl,rfl,rfl,VC _,λ_ _ _=>rfl⟩
theorem O.trans{c:World}(h:O y w T)(k:O y T c):O y w c :=
 ⟨k.os.trans h.os,k.tape.trans h.tape,k.output.trans h.output,VK h.size k.size,
  λi a b=>(k.block i (VG a h.size) b).trans (h.block i a b)⟩
theorem O.mono{S':VB}(h:O y w T)(b:∀k,k∈y->k<w.heap.size->k∈S'):O S' w T :=
 ⟨h.os,h.tape,h.output,h.size,λk a c=>h.block k a (by grind)⟩
theorem O.drew(h:O y w T):O y w T.drew:=⟨h.os,h.tape,h.output,h.size,h.block⟩
theorem O.drewN(h:O y w T)(n:Nat):O y w (T.drewN n):=⟨h.os,h.tape,h.output,h.size,h.block⟩
theorem O.alloc(h:O y w T)(o:Obj):O y w (T.alloc o) :=
 h.trans ⟨rfl,rfl,rfl,by simp,λk a _=>Below.heap_alloc _ _ _ a⟩
theorem O.setCell(h:O y w T){p:Addr}(c:p.block∈y∨w.heap.size<=p.block)(u:Value):O y w (T.setCell p u) :=
 ⟨h.os,h.tape,h.output,by have:=h.size;simp_all,λk a b=>by
  rw[VN _ _ _ _ (by grind)];exact h.block k a b⟩
theorem O.below(h:O [] w T):Below w.heap.size w T :=
 ⟨h.os,h.tape,h.output,h.size,λk a=>h.block k a (by simp)⟩
theorem aC(h:w.heap[b]?=some (.cells I f))(i:Nat):w.cell? ⟨b,i,none⟩=I[i]?:=by unfold World.cell?;simp[h]
theorem au(h:w.heap[b]?=some (.cells I f))(i:Nat):w.frozen? ⟨b,i,none⟩=false:=by unfold World.frozen?;simp[h]
theorem ab(h:w.heap[b]?=some (.cells I f))(i:Nat)(u:Value) :
  (w.setCell ⟨b,i,none⟩ u).heap[b]?=some (.cells (I.setIfInBounds i u) f):=by simp[World.setCell,Array.getElem?_modify,h]
theorem ae(h:w.heap[b]?=some zt):b<w.heap.size:=by grind
theorem Ft{c:FuncId}(h:Calls D c I (w.drewN (b+f)) λe a=>e=returned v/\a=w.drewN (b+f)) :
  Calls D c I (w.drewN (b+f)) λe a=>e=returned v/\∃n,a=w.drewN (b+n) :=
 h.mono λ_ _ d=>⟨d.1,f,d.2⟩
theorem aN{b:Bool}(h:z7=b):Ending.returned (bool z7)=returned (bool b):=by rw[h]
theorem aw{k:IntKind}{b:Int}(h:y4=b):Ending.returned (int k y4)=returned (int k b):=by rw[h]
theorem uo(h:L.toList=a.toList):L=a:=by rw[Wy,Wy]at h;cases L;simp_all
theorem om(h:(L.toList==a.toList)=true):L=a:=uo (by grind)
theorem xx(h:L=a):(L.toList==a.toList)=true:=by grind
theorem Qu(h:L≠a):(L.toList==a.toList)=false:=by grind [om]
theorem vG(h:w.heap[b]?=some (.cells #[v,M] f)):w.cell? ⟨b,0,none⟩=some v/\w.cell? ⟨b,1,none⟩=some M :=
 ⟨aC h _,aC h _⟩
theorem Aj(h:w.heap[b]?=some (.cells #[v,M,t] f)):w.cell? ⟨b,0,none⟩=some v/\w.cell? ⟨b,1,none⟩=some M/\w.cell? ⟨b,2,none⟩=some t :=
 ⟨aC h _,aC h _,aC h _⟩
theorem Ak(h:w.heap[b]?=some (.cells #[v,M,t,z5] f)):w.cell? ⟨b,0,none⟩=some v/\w.cell? ⟨b,1,none⟩=some M/\w.cell? ⟨b,2,none⟩=some t/\w.cell? ⟨b,3,none⟩=some z5 :=
 ⟨aC h _,aC h _,aC h _,aC h _⟩
theorem mq(h:w.heap[b]?=some (.cells #[v,M,t,z5,z8] f)):w.cell? ⟨b,0,none⟩=some v/\w.cell? ⟨b,1,none⟩=some M/\w.cell? ⟨b,2,none⟩=some t/\w.cell? ⟨b,3,none⟩=some z5/\w.cell? ⟨b,4,none⟩=some z8 :=
 ⟨aC h _,aC h _,aC h _,aC h _,aC h _⟩
theorem Oa(h:w.heap[b]?=some (.cells #[v,M,t,z5,z8,y3] f)):w.cell? ⟨b,0,none⟩=some v/\w.cell? ⟨b,1,none⟩=some M/\w.cell? ⟨b,2,none⟩=some t/\w.cell? ⟨b,3,none⟩=some z5/\w.cell? ⟨b,4,none⟩=some z8/\w.cell? ⟨b,5,none⟩=some y3 :=
 ⟨aC h _,aC h _,aC h _,aC h _,aC h _,aC h _⟩
theorem zr{a c:Value}(h:w.heap[b]?=some (.cells #[v,M,t,z5,z8,y3,a,c] f)):w.cell? ⟨b,0,none⟩=some v/\w.cell? ⟨b,1,none⟩=some M/\w.cell? ⟨b,2,none⟩=some t/\w.cell? ⟨b,3,none⟩=some z5/\w.cell? ⟨b,4,none⟩=some z8/\w.cell? ⟨b,5,none⟩=some y3/\w.cell? ⟨b,6,none⟩=some a/\w.cell? ⟨b,7,none⟩=some c :=
 ⟨aC h _,aC h _,aC h _,aC h _,aC h _,aC h _,aC h _,aC h _⟩
theorem dL(h:w.alloc (.cells I b)=T):T.heap[w.heap.size]?=some (.cells I b):=by rw[<-h];exact VD ..
theorem dI(h:w.alloc (.cells I b)=T):O [] w T:=by rw[<-h];exact(O.refl [] _).alloc _
theorem bQ:O [] w w:=O.refl [] w
theorem O.sl1(h:O (b :: y) w T)(v:Value):O (b :: y) w (T.setCell ⟨b,f,none⟩ v):=h.setCell (VY (by simp)) v
theorem O.sr1(h:O y w T)(a:w.heap.size<=b)(v:Value):O y w (T.setCell ⟨b,f,none⟩ v):=h.setCell (VW a) v
theorem kn:(d<H/\(d:Int)<(H:Int))∨(¬d<H/\¬(d:Int)<(H:Int)):=by omega
theorem aX{α:Type}(e:α):∃x,Z (e=x):=⟨_,rfl⟩
theorem cI{p:Prop}(h:p):Z p:=h
theorem bR(B:w.heap[b]?=some (.cells I y2))(h:I[f]?=some v):w.cell? ⟨b,f,none⟩=some v:=by rwa [aC B]
theorem po{a:Addr}(h:T.heap[a.block]?=w.heap[a.block]?)(c:w.cell? a=some v):T.cell? a=some v:=by rwa [Wc h]
theorem dZ(H:Calls D b I w (λe a=>e=returned v/\a=w))(k:y5 (returned v) w):Calls D b I w y5:=VL H (by grind)
theorem de{R:World->Prop}(H:Calls D b I w (λe a=>e=returned v/\R a))(k:∀a,R a->y5 (returned v) a):Calls D b I w y5:=VL H (by grind)
abbrev X (b i:Nat):Addr:=⟨b,i,none⟩
abbrev aE (b:Nat):Addr:=⟨b,0,none⟩
abbrev aP (w:World) (b i:Nat) (v:Value):Prop:=w.cell? ⟨b,i,none⟩=some v
abbrev BkL (w:World) (b:Nat) (c:Array Value) (t:Nat):Prop:=w.heap[b]?=some (.cells c t)
abbrev bh (b:Nat):Value:=pointer (some ⟨b,0,none⟩)
abbrev J (n:Int):Value:=int i64 n
abbrev bN:Value:=string ⟨#[]⟩
abbrev iw (v:Value) (w:World):Ending->World->Prop:=λe w'=>e=returned v/\w'=w
abbrev kt (v:Value) (w:World):Ending->World->Prop:=λe w'=>e=returned v/\O [] w w'
abbrev aJ (c:Array Value) (t:Nat):Obj:=.cells c t (0,0)
abbrev Y (x:ByteArray):Value:=string x
abbrev Q (a:Option Addr) (n c:Nat):Value:=slice a n c
abbrev cM (v:Value):Ending:=returned v
abbrev aU:=Calls prog
abbrev aI (w w':World):Prop:=O [] w w'
abbrev KyD (x:ByteArray) (n:UInt8):Bool:=x.toList == [36,n]
abbrev HzW (w:World):Nat:=w.heap.size
theorem jy{a b:Prop}(c:a)(d:b):Z a/\Z b:=⟨c,d⟩
theorem oF{a b c:Prop}(d:a)(e:b)(f:c):Z a/\Z b/\Z c:=⟨d,e,f⟩
theorem hg4{a b c d:Prop}(e:a)(f:b)(g:c)(i:d):Z a/\Z b/\Z c/\Z d:=⟨e,f,g,i⟩
theorem dm{a b c d e:Prop}(f:a)(g:b)(i:c)(j:d)(k:e):Z a/\Z b/\Z c/\Z d/\Z e:=⟨f,g,i,j,k⟩
theorem wl{a b c d e f:Prop}(g:a)(i:b)(j:c)(k:d)(l:e)(m:f):Z a/\Z b/\Z c/\Z d/\Z e/\Z f:=⟨g,i,j,k,l,m⟩
theorem vL{a b c d e f g:Prop}(i:a)(j:b)(k:c)(l:d)(m:e)(n:f)(o:g):Z a/\Z b/\Z c/\Z d/\Z e/\Z f/\Z g:=⟨i,j,k,l,m,n,o⟩
theorem hg8{a b c d e f g i:Prop}(j:a)(k:b)(l:c)(m:d)(n:e)(o:f)(p:g)(q:i):Z a/\Z b/\Z c/\Z d/\Z e/\Z f/\Z g/\Z i:=⟨j,k,l,m,n,o,p,q⟩
theorem hg9{a b c d e f g i j:Prop}(k:a)(l:b)(m:c)(n:d)(o:e)(p:f)(q:g)(r:i)(s:j):Z a/\Z b/\Z c/\Z d/\Z e/\Z f/\Z g/\Z i/\Z j:=⟨k,l,m,n,o,p,q,r,s⟩
theorem sN{c:Prop}[Decidable c]{α:Type}{x y:α}(h:¬c:=by omega):ite c x y=y:=VS h
theorem mt{c:Prop}[Decidable c]{α:Type}{x y:α}(h:¬c:=by simp):ite c x y=y:=VS h
theorem O.sr(h:O y w T)(a:w.heap.size<=b:=by simp):O y w (T.setCell ⟨b,f,none⟩ v):=h.sr1 a v
def dN(n:Int):Bool:=n==32||n==9||n==10||n==12||n==13
def gW(n:Int):Bool:=decide (33<=n)&&decide (n<=126)
theorem md :
  aU 225 #[int u8 i] n (iw (bool (dN i)) n):=by go_enter func225,ntmps225;go_wp2;(all_goals go_ret);all_goals (refine⟨?_,rfl⟩;simp[dN, *])
theorem sC :
  aU 228 #[int u8 i] n (iw (bool (gW i)) n):=by go_enter func228,ntmps228;go_wp2;(all_goals go_ret);all_goals (refine⟨?_,rfl⟩;first | (simp[gW, *];done) | (simp[gW];omega))
def aR(d:Vx)(k:Nat):Int:=if h:k<d.size then((d[k]'h).toNat:Int) else 0
theorem da(h:H<l.size):aR l H=((l[H]'h).toNat:Int):=by grind [aR]
def bA(d:Vx):Nat->Int
 | 0=>1
 | k+1=>if aR d k==10 then bA d k+1 else bA d k
def bY(d:Vx):Nat->Int
 | 0=>1
 | k+1=>if aR d k==10 then 1 else bY d k+1
theorem Fb(k:Nat):1<=bA l k/\bA l k<=k+1:=by induction k with|zero=>simp[bA]|succ k a=>grind [bA]
theorem EG(k:Nat):1<=bY l k/\bY l k<=k+1:=by induction k with|zero=>simp[bY]|succ k a=>grind [bY]
def pg(n d:Vx)(k:Nat):Array Value:=#[Y n,Y d,J k,J (bA d k),J (bY d k)]
def dd(w:World)(b:Nat)(n d:Vx)(k:Nat):Prop:=w.heap[b]?=some (aJ (pg n d k) 300)
theorem dd.cells(h:dd w b L a f) :
  aP w b 0 (Y L)/\aP w b 1 (Y a)/\aP w b 2 (J f) /\
  aP w b 3 (J (bA a f))/\aP w b 4 (J (bY a f)):=by refine⟨?_,?_,?_,?_,?_⟩ <;> exact bR h rfl
theorem dd.YZ(h:dd w b L a f)(d:O y w T)(c:b∉y):dd T b L a f :=
 (d.block b (ae h) c).trans h
theorem O.get(c:O y w T)(h:w.heap[b]?=some zt)(a:b∉y):T.heap[b]?=some zt :=
 (c.block b (ae h) a).trans h
theorem O.gt(c:O y w T)(h:w.heap[b]?=some zt)(a:b∉y:=by simp):T.heap[b]?=some zt:=c.get h a
theorem FF(h:dd w b L a f)(g:f<a.size)(e:((a[f].toNat:Int)==10)=true)(m:Nat) :
  dd (((((w.drewN m).setCell (X b 3) (J (bA a f+1))).setCell (X b 4) (J 0)).setCell (X b 4) (J 1)).setCell (X b 2) (J ((f:Int)+1))) b L a (f+1):=by have c:(w.drewN m).heap[b]?=some (aJ (pg L a f) 300):=h;have d:=ab (ab (ab (ab c 3 (J (bA a f+1))) 4 (J 0)) 4 (J 1)) 2 (J ((f:Int)+1));unfold dd;rw[d];simp[pg,bA,bY,da a f g,e]
theorem zv(h:dd w b L a f)(g:f<a.size)(e:((a[f].toNat:Int)==10)=false)(m:Nat) :
  dd (((w.drewN m).setCell (X b 4) (J (bY a f+1))).setCell (X b 2) (J ((f:Int)+1))) b L a (f+1):=by have c:(w.drewN m).heap[b]?=some (aJ (pg L a f) 300):=h;have d:=ab (ab c 4 (J (bY a f+1))) 2 (J ((f:Int)+1));unfold dd;grind [pg,bA,bY,da]
theorem Jg(q:l.size<=1024)(a:x<l.size)(h:dd n s S l x) :
  aU 226 #[bh s] n λe b=>e=cM (tuple #[])/\dd b s S l (x+1)/\O [s] n b:=by obtain⟨f,g,i,j,k⟩:=h.cells;have m:=au h 2;have o:=au h 3;have p:=au h 4;have d:=Fb l x;have c:=EG l x;go_enter func226,ntmps226;go_wp2;go_quiet (fail);go_wp2;go_quiet (fail);go_wp2;(all_goals go_end0);(all_goals refine⟨rfl,?_,?_⟩);{exact FF h a (by omega) _};{exact((((((O.refl _ _).drewN _).sl1 _).sl1 _).sl1 _).sl1 _)};{exact zv h a (by omega) _};{exact((((O.refl _ _).drewN _).sl1 _).sl1 _)}
theorem DE(h:dd n s S l x) :
  aU 227 #[bh s] n (kt (agg #[Y S,J (bA l x),J (bY l x)]) n):=by obtain⟨a,b,c,d,e⟩:=h.cells;have f:=ae h;go_enter func227,ntmps227;go_wp2;go_region;(all_goals go_wp2);exact VJ (v:=agg #[Y S,J (bA l x),J (bY l x)]) (by simp[results,results227,go_sem]) rfl ⟨rfl,((O.refl _ _).alloc _).drew⟩
def t9(d:Vx):Nat->Nat->Nat
 | 0,k=>k
 | f+1,k=>if k<d.size/\dN (aR d k)=true then t9 d f (k+1) else k
def skip(d:Vx)(k:Nat):Nat:=t9 d (d.size-k) k
def ug(d:Vx):Nat->Nat->Nat
 | 0,k=>k
 | f+1,k=>if k<d.size/\dN (aR d k)=false/\gW (aR d k)=true then ug d f (k+1) else k
def dR(d:Vx)(k:Nat):Nat:=ug d (d.size-k) k
theorem Nx(h:H<l.size)(a:dN (aR l H)=true):skip l H=skip l (H+1):=by unfold skip;rw[show l.size-H=(l.size-(H+1))+1 by omega];grind [t9]
theorem xt(h:¬(H<l.size/\dN (aR l H)=true)):skip l H=H:=by unfold skip;cases l.size-H with|zero=>rfl|succ f=>rw[t9,VS h]
theorem NM(h:H<l.size)(a:dN (aR l H)=false)(b:gW (aR l H)=true):dR l H=dR l (H+1):=by unfold dR;rw[show l.size-H=(l.size-(H+1))+1 by omega];grind [ug]
theorem Cl(h:¬(H<l.size/\dN (aR l H)=false/\gW (aR l H)=true)):dR l H=H:=by unfold dR;cases l.size-H with|zero=>rfl|succ f=>rw[ug,VS h]
theorem DT(f k:Nat):k<=t9 l f k/\(k<=l.size->t9 l f k<=l.size):=by induction f generalizing k with|zero=>simp[t9]|succ f a=>grind [t9]
theorem Ej(f k:Nat):k<=ug l f k/\(k<=l.size->ug l f k<=l.size):=by induction f generalizing k with|zero=>simp[ug]|succ f a=>grind [ug]
theorem FG(h:H<=l.size):H<=skip l H/\skip l H<=l.size:=⟨(DT l _ H).1,(DT l _ H).2 h⟩
theorem wj(h:H<=l.size):H<=dR l H/\dR l H<=l.size:=⟨(Ej l _ H).1,(Ej l _ H).2 h⟩
structure wt where
 text:Vx
 Y9:Int
 Y5:Bool
 pos:Nat
def ia(n d:Vx)(i:wt):Value:=agg #[Y i.text,J i.Y9,bool i.Y5,Y n,J (bA d i.pos),J (bY d i.pos)]
def cr(d:Vx)(k:Nat):wt×Nat :=
 let a:=skip d k
 let z:=dR d a
 if z<d.size/\dN (aR d z)=false then(⟨⟨#[]⟩,1,false,z⟩,z)
 else if z<=a then(⟨⟨#[]⟩,0,true,a⟩,z)
 else(⟨d.extract a z,0,false,a⟩,z)
theorem IY(b:d=skip N x)(e:dR N H=dR N d)(f:H<N.size)(a:dN (aR N H)=false)(c:gW (aR N H)=false) :
  cr N x=(⟨⟨#[]⟩,1,false,H⟩,H):=by grind [dR,skip,Cl,cr]
theorem IZ(a:d=skip N x)(c:dR N H=dR N d)(b:¬(H<N.size/\dN (aR N H)=false))(e:H<=d) :
  cr N x=(⟨⟨#[]⟩,0,true,d⟩,H):=by grind [dR,skip,Cl,cr]
theorem DP(a:d=skip N x)(c:dR N H=dR N d)(b:¬(H<N.size/\dN (aR N H)=false))(e:d<H) :
  cr N x=(⟨N.extract d H,0,false,d⟩,H):=by grind [dR,skip,Cl,cr]
theorem QK :
  (∃h:H<l.size,dN ((l[H]'h).toNat:Int)=false/\gW ((l[H]'h).toNat:Int)=true/\dR l (H+1)=dR l H) ∨
  (∃h:H<l.size,dN ((l[H]'h).toNat:Int)=false/\gW ((l[H]'h).toNat:Int)=false) ∨
  (∃h:H<l.size,dN ((l[H]'h).toNat:Int)=true)∨(¬H<l.size/\decide ((H:Int)<(l.size:Int))=false):=by grind [da,dN,aR,gW,NM]
def mD(n:Int):Bool:=decide (33<=n)&&decide (n<=126) && !(n==36)
def jH(s:Vx):Bool:=decide (1<=s.size)&&decide (s.size<=8)&&(List.range s.size).all (λi=>mD (aR s i))
def dU(n d:Vx):Int:=if jH n=false then 2 else if 1024<d.size then 3 else 0
theorem oV(h:l.size<1∨8<l.size):jH l=false:=by grind [jH]
theorem Ks(h:H<l.size)(a:mD (aR l H)=false):jH l=false:=by grind [jH,mD,aR]
theorem Ib(a:1<=l.size)(b:l.size<=8)(h:∀i,i<l.size->mD (aR l i)=true):jH l=true:=by grind [jH,mD,aR]
theorem AV(s:l.size<=1073741824) :
    aU 76 #[Y l] n (iw (bool (jH l)) n):=by
  by_cases f:1<=l.size
  · by_cases j:l.size<=8
    · go_enter func76,ntmps76;go_wp2;go_loopg [3] l.size (λg i wr=>∃k:Nat,k<=l.size/\g=l.size-k/\i=J k/\Z (∀i,i<k->mD (aR l i)=true)/\wr=n);{exact⟨0,by omega,by omega,rfl,λi h=>by omega,rfl⟩};obtain⟨k,r,q,rfl,a,rfl⟩:=hrel;by_cases c:k<l.size
      · (have p:∀b:Bool,mD (l[k].toNat:Int)=b->mD (aR l k)=b:=λb h=>by grind [da]);have d:Z (∀b:Bool,mD (l[k].toNat:Int)=b->mD (aR l k)=b):=p;go_wp2
        all_goals first
          | (go_ret;refine⟨aN ?_,rfl⟩;rw[Ks l k c (d.o false ?_)];first | (simp[mD];omega) | (simp[mD];simp at *;omega))
          | (go_roundg (l.size-(k+1))
             case measure=>omega
             case rel =>
               refine⟨k+1,by omega,rfl,by go_num,?_,rfl⟩;intro i m;by_cases e:i=k
               · grind [mD]
               · exact a i (by omega))
      {go_wp2;go_ret;exact⟨aN (Ib l f j (λi m=>a i (by omega))).symm,rfl⟩}
    {go_enter func76,ntmps76;go_wp2;(all_goals go_ret);all_goals exact⟨aN (oV l (VW (by omega))).symm,rfl⟩}
  {go_enter func76,ntmps76;go_wp2;(all_goals go_ret);all_goals exact⟨aN (oV l (VY (by omega))).symm,rfl⟩}
theorem qL(b:S.size<=1073741824)(f:l.size<=4294967296) :
    aU 48 #[Y S,Y l] n (iw (J (dU S l)) n):=by cases a:jH S;{go_enter func48,ntmps48;go_wp2_with fail;refine(AV S _ b).mono ?_;rintro e d ⟨rfl,rfl⟩;go_wp2;go_ret;exact⟨aw (by simp[dU,a]),rfl⟩};{by_cases c:1024<l.size;all_goals(go_enter func48,ntmps48;go_wp2_with fail;refine(AV S _ b).mono ?_;rintro e d ⟨rfl,rfl⟩;go_wp2;go_ret;exact⟨aw (by simp[dU,a,c]),rfl⟩)}
def aO(fs:Fs)(i:Nat):Vx:=(fs.getD i (⟨#[]⟩,⟨#[]⟩)).1
def ak(fs:Fs)(i:Nat):Vx:=(fs.getD i (⟨#[]⟩,⟨#[]⟩)).2
def rY(fs:Fs):List Value :=
  [Y (aO fs 0),Y (ak fs 0),Y (aO fs 1),Y (ak fs 1),Y (aO fs 2),Y (ak fs 2),Y (aO fs 3),Y (ak fs 3),J fs.length]
def ce(w:World)(v t:Nat)(fs:Fs)(more:List Value):Prop:=w.heap[v]?=some (aJ (rY fs++more).toArray t)/\fs.length<=4
theorem ce.name{a:Fs}(h:ce w b f a m)(i:Nat)(c:i<4) :
    w.cell? (X b (i*2))=some (Y (aO a i))/\w.cell? (X b (i*2+1))=some (Y (ak a i)):=by
  (constructor <;> rw[aC h.1])
  all_goals
    match i,c with
    | 0,_=>rfl
    | 1,_=>rfl
    | 2,_=>rfl
    | 3,_=>rfl
theorem ce.count{a:Fs}(h:ce w b f a m) :
    aP w b 8 (J a.length):=by exact bR h.1 rfl
def fF(n:Vx):Fs->Nat->Int
  | [],_=>-1
  | f :: r,i=>if(f.1.toList==n.toList)=true then i else fF n r (i+1)
def cY(fs:Fs)(n:Vx):Int:=fF n fs 0
theorem MH{α:Type}(l:List α)(k:Nat)(h:k<l.length):l.drop k=l[k] :: l.drop (k+1):=by simp
theorem De(a:Fs)(k:Nat)(h:k<a.length):aO a k=a[k].1:=by grind [aO]
theorem GR(a:Fs)(n:Vx)(k:Nat)(h:k<a.length)(c:cY a n=fF n (a.drop k) k)(b:((aO a k).toList==n.toList)=true):cY a n=k:=by grind [MH,fF,De]
theorem Dg(a:Fs)(n:Vx)(k:Nat)(h:k<a.length)(c:cY a n=fF n (a.drop k) k)(b:((aO a k).toList==n.toList)=false):cY a n=fF n (a.drop (k+1)) (k+1):=by grind [MH,fF,De]
theorem Dh(a:Fs)(n:Vx)(k:Nat)(h:¬k<a.length)(b:cY a n=fF n (a.drop k) k):cY a n=-1:=by rw[b,Ws (by omega),fF]
theorem nU(a:Fs)(e:List Value)(n:Vx)(w:World)(h:ce w d H a e) :
    aU 49 #[bh d,Y n] w (iw (J (cY a n)) w):=by have l:=h.count;have m:=h.2;go_enter func49,ntmps49;go_wp2;go_loopg [5] a.length (λg i wr=>∃k:Nat,k<=a.length/\g=a.length-k/\i=J k/\Z (cY a n=fF n (a.drop k) k)/\wr=w);{exact⟨0,by omega,by omega,rfl,rfl,rfl⟩};obtain⟨k,q,p,rfl,b,rfl⟩:=hrel;by_cases c:k<a.length;{obtain⟨r,s⟩:=h.name k (by omega);cases j:((aO a k).toList==n.toList);{have f:Z _:=Dg a n k c b j;go_wp2;go_roundg (a.length-(k+1));{grind};omega};{have f:Z _:=GR a n k c b j;go_wp2;go_ret;exact⟨aw f.o.symm,rfl⟩}};{have f:Z _:=Dh a n k c b;go_wp2;go_ret;exact⟨aw f.o.symm,rfl⟩}
theorem ce.free{a:Fs}(h:ce w b f a m)(i:Nat):w.frozen? (X b i)=false:=au h.1 i
theorem ce.YZ{a:Fs}(h:ce w b f a m)(c:O y w T)(d:b∉y):ce T b f a m :=
 ⟨c.get h.1 d,h.2⟩
theorem ce.lt{a:Fs}(h:ce w b f a m):b<w.heap.size:=ae h.1
theorem R6(a:Fs)(b:List Value)(w:World)(h:ce w x d a b)(g:H<a.length) :
  aU 153 #[bh x,J H] w (kt (agg #[Y (aO a H),Y (ak a H)]) w):=by have c:=h.count;have e:=h.2;have f:=h.lt;obtain⟨i,j⟩:=h.name H (by omega);go_enter func153,ntmps153;go_wp2;exact VJ (v:=agg #[Y (aO a H),Y (ak a H)]) (by simp[results,results153,go_sem]) rfl ⟨rfl,(O.refl _ _).alloc _⟩
theorem zbt(f:Fs)(e:List Value)(n d:Vx)(h:f.length<4) :
  (((rY f++e).set (f.length*2) (Y n)).set (f.length*2+1) (Y d)).set 8 (J ((f.length:Int)+1))=rY (f++[(n,d)])++e:=by
 match f,h with
 | [],_=>rfl
 | [a],_=>rfl
 | [a,b],_=>rfl
 | [a,b,c],_=>rfl
theorem zbu(g:Fs)(f:List Value)(n d:Vx)(k:Nat)(i:k<g.length)(h:g.length<=4) :
  ((rY g++f).set (k*2) (Y n)).set (k*2+1) (Y d)=rY (g.set k (n,d))++f:=by
 match g,h,k,i with
 | [a],_,0,_=>rfl
 | [a,b],_,0,_=>rfl
 | [a,b],_,1,_=>rfl
 | [a,b,c],_,0,_=>rfl
 | [a,b,c],_,1,_=>rfl
 | [a,b,c],_,2,_=>rfl
 | [a,b,c,e],_,0,_=>rfl
 | [a,b,c,e],_,1,_=>rfl
 | [a,b,c,e],_,2,_=>rfl
 | [a,b,c,e],_,3,_=>rfl
theorem ce.added{a:Fs}(h:ce w b f a m)(n d:Vx)(e:a.length<4) :
  ce (((w.setCell (X b (a.length*2)) (Y n)).setCell (X b (a.length*2+1)) (Y d)).setCell (X b 8) (J ((a.length:Int)+1))) b f (a++[(n,d)]) m:=by have c:=ab (ab (ab h.1 (a.length*2) (Y n)) (a.length*2+1) (Y d)) 8 (J ((a.length:Int)+1));refine⟨?_,by grind⟩;grind [zbt]
theorem ce.turned{a:Fs}(h:ce w b f a m)(n d:Vx)(k:Nat)(e:k<a.length) :
  ce ((w.setCell (X b (k*2)) (Y n)).setCell (X b (k*2+1)) (Y d)) b f (a.set k (n,d)) m:=by have c:=ab (ab h.1 (k*2) (Y n)) (k*2+1) (Y d);refine⟨?_,by simpa using h.2⟩;rw[c];simp only[List.setIfInBounds_toArray,zbu a m n d k e h.2]
theorem Mw(b:Fs)(a:List Value)(w:World)(h:ce w s x b a)(g:b.length<4) :
  aU 50 #[bh s,agg #[Y S,Y l]] w λe d=>e=cM (tuple #[])/\ce d s x (b++[(S,l)]) a/\O [s] w d:=by have c:=h.count;have f:=h.free;have i:=h.lt;obtain⟨j,k⟩:=h.name b.length (by omega);go_enter func50,ntmps50;go_wp2;go_region;(all_goals go_wp2);(all_goals go_end0);exact⟨rfl,(h.added S l g).YZ (bQ.alloc _ |>.drew) (by simp),((((O.refl _ _).sl1 _).sl1 _).sl1 _).alloc _ |>.drew⟩
def gK(fs:Fs)(n d:Vx):Int×Fs :=
 if dU n d≠0 then(dU n d,fs)
 else if 0<=cY fs n then(0,fs.set (cY fs n).toNat (n,d))
 else if 4<=fs.length then(1,fs) else(0,fs++[(n,d)])
theorem GP(a:Fs)(i:Nat):fF l a i=-1∨((i:Int)<=fF l a i/\fF l a i<i+a.length):=by induction a generalizing i with|nil=>exact VY rfl|cons f r b=>grind [fF]
theorem tB(a:Fs):cY a l=-1∨∃k:Nat,k<a.length/\cY a l=k:=by rcases GP l a 0 with h | h;{exact VY h};{refine VW ⟨(cY a l).toNat,?_,?_⟩ <;> (unfold cY;omega)}
theorem Np(a:Fs)(b:List Value)(w:World)(h:ce w s x a b)(n:S.size<=1073741824)(m:l.size<=4294967296) :
  aU 31 #[bh s,Y S,Y l] w λe u=>e=cM (J (gK a S l).1)/\ce u s x (gK a S l).2 b/\O [s] w u:=by have q:=h.count;have B:=h.lt;have t:=h.2;by_cases f:dU S l=0;{rcases tB S a with g | ⟨k,A,g⟩;{by_cases r:4<=a.length;{have d:Z (gK a S l=(1,a)):=(by show gK a S l=_;simp[gK,f,g,r]);have j:Z (dU S l=0):=f;have c:Z (cY a S=-1):=g;go_enter func31,ntmps31;go_wp2_with fail;refine(qL S l _ n m).mono ?_;rintro e i ⟨rfl,rfl⟩;rw[j.o];go_wp2_with fail;refine(nU s x a b S _ (by exact h.YZ (bQ.alloc _) (by simp))).mono ?_;rintro e i ⟨rfl,rfl⟩;rw[c.o];go_wp2;go_ret;exact⟨aw (by rw[d.o]),by rw[d.o];exact h.YZ (bQ.alloc _) (by simp),(O.refl _ _).alloc _⟩};{have d:Z (gK a S l=(0,a++[(S,l)])):=(by show gK a S l=_;simp[gK,f,g,r]);have j:Z (dU S l=0):=f;have c:Z (cY a S=-1):=g;go_enter func31,ntmps31;go_wp2_with fail;refine(qL S l _ n m).mono ?_;rintro e i ⟨rfl,rfl⟩;rw[j.o];go_wp2_with fail;refine(nU s x a b S _ (by exact h.YZ (bQ.alloc _) (by simp))).mono ?_;rintro e i ⟨rfl,rfl⟩;rw[c.o];go_wp2_with fail;refine(Mw s x S l a b _ (by exact h.YZ (bQ.alloc _) (by simp)) (by omega)).mono ?_;rintro e E ⟨rfl,v,p⟩;go_wp2;go_ret;exact⟨aw (by rw[d.o]),by rw[d.o];exact v,((O.refl _ _).alloc _).trans p⟩}};{have d:Z (gK a S l=(0,a.set k (S,l))):=(by show gK a S l=_;simp[gK,f,g]);have j:Z (dU S l=0):=f;have c:Z (cY a S=k):=g;obtain⟨C,D⟩:=h.name k (by omega);have z:=h.free;go_enter func31,ntmps31;go_wp2_with fail;refine(qL S l _ n m).mono ?_;rintro e i ⟨rfl,rfl⟩;rw[j.o];go_wp2_with fail;refine(nU s x a b S _ (by exact h.YZ (bQ.alloc _) (by simp))).mono ?_;rintro e i ⟨rfl,rfl⟩;rw[c.o];go_wp2_with fail;go_region;(all_goals go_wp2);(all_goals go_ret);exact⟨aw (by rw[d.o]),by rw[d.o];exact(h.turned S l k A).YZ (bQ.alloc _ |>.drew) (by simp),(((O.refl _ _).sl1 _).sl1 _).alloc _ |>.drew⟩}};{(have d:Z (gK a S l=(dU S l,a)):=by show gK a S l=_;simp[gK,f]);(have y:(dU S l != 0)=true:=by simp[f]);go_enter func31,ntmps31;go_wp2_with fail;refine(qL S l _ n m).mono ?_;rintro e i ⟨rfl,rfl⟩;go_wp2;go_ret;exact⟨aw (by rw[d.o]),by rw[d.o];exact h,O.refl _ _⟩}
structure U where
 ao:Vz
 cap:Nat
def U.Y0(h:U):Option Nat:=h.ao.map (·.block)
structure eR where
 e:TypeId
 size:Nat
 n:Nat
 xs:List Value
def aK(w:World)(h:U)(r:eR):Prop:=w.ownsRow 0 r.e r.size (Q h.ao r.n h.cap) r.n r.xs
theorem Fm(h:U)(n:Nat):(Q h.ao n h.cap).ownBlock=h.Y0:=by unfold U.Y0;cases h.ao <;> rfl
theorem aK.lt{h:U}{r:eR}(o:aK w h r){k:Nat}(a:h.Y0=some k):k<w.heap.size :=
 (World.ownsRow.lt (h:=o) k (by rwa [Fm])).2
theorem aK.YR{w':World}{h:U}{r:eR}(o:aK w h r)(n:∀k,h.Y0=some k->w'.heap[k]?=w.heap[k]?):aK w' h r:=by refine⟨o.1,?_⟩;rcases o.2 with l | ⟨g,a,b,m,i,j,c,d,e,f⟩;{grind};grind [U.Y0]
theorem aK.YX{h:U}{r:eR}(o:aK w h r) :
  (h=⟨none,0⟩/\r.n=0/\r.xs=[])∨∃g a,h.ao=some (aE g)/\w.heap[g]?=some (aJ a r.e)/\r.n<=h.cap/\h.cap<=maxLen/\a.size=h.cap*r.size/\a.toList.take (r.n*r.size)=r.xs:=by rcases o.2 with ⟨c,b⟩ | ⟨g,d,a,c,q,s,k,l,m,p⟩;{left;injection c with f i j;refine⟨by cases h;simp_all,b,Wa (by rw[o.1,b];simp)⟩};grind
theorem bO:((aE d):Addr).add H=(X d H):=by simp[Addr.add];grind
theorem aK.cell{h:U}{r:eR}(o:aK w h r)(c:h.ao=some (aE b))(j:Nat)(u:Value)(a:r.xs[j]?=some u):aP w b j u:=by have:=o.cells (g:=b) (by grind [Fm,U.Y0]) j u a;rw[bO]at this;exact this
theorem a9{v:List Oper}(L:z4.guard=none)(s x:Operand)(t:TypeId)(y:z4.op=Op.call { callee:=Callee.builtin Builtin.append,args:=#[s,x],argTypes:=#[t,t] })(i:TypeInfo)(z:Value)(f:Nat)(h:U)(r:eR)(F:D.underlying t=some (.slice r.e))(G:D.info? r.e=some i)(V:i.zero=some z)(H:i.size=r.size)(W:i.bytes=f)(h6:z.cells.size=r.size)(h7:0<r.size)(hs:z6.eval s=Q h.ao r.n h.cap)(o:aK n h r)(B:Addr)(m c:Nat)(d:List Value)(N:z6.eval x=Q (some B) m c)(M:d.length=m*r.size)(K:∀j u,d[j]?=some u->n.cell? (B.add j)=some u)(w:∀u∈d,u.oneCell'=true)(hm:0<m)(b1:r.n+m<=maxLen)(b2:(r.n+m)*f<=140737488355328)(I:∀g a p,aK p ⟨some (aE g),a⟩ ⟨r.e,r.size,r.n+m,r.xs++d⟩->n.grownBy p h.Y0->(h.Y0=some g∨n.heap.size<=g)->wpList D y6 y8 v (z6.put z4.dst (Q (some (aE g)) (r.n+m) a)) p) :
  wpList D y6 y8 (z4 :: v) z6 n:=by rcases o.YX with ⟨E,T,e3⟩ | ⟨g,C,E,T,e3,e4,e5,e6⟩;{refine wpList_append_grows n L s x t y r.e i z r.size f F G V H W h6 h7 none 0 0 [] (by grind) (by simp) (by simp) (by simp) B m c d N M K w (by omega) (by omega) (by grind) ?_;intro v' p A l;rcases A.2 with ⟨_,q⟩ | ⟨g,a,C,P,R,q3,q4,q5,q6,q7⟩;{omega};{have:=I g a p ⟨by grind,VW ⟨g,a,C,by simp,V5 _,q3,by grind,q5,q6,by grind⟩⟩ (E ▸ l) (VW R);rw[P];simpa [T] using this}};{by_cases hf:r.n+m<=h.cap;{refine wpList_append_fits n L s x t y 0 r.e i r.size F G H g r.n h.cap r.xs (by grind) (by have:=o;unfold aK at this;rw[E]at this;exact this) B m c d N M K w hf ?_;intro p A l;exact I g h.cap p A (by unfold U.Y0;rwa [E]) (by grind [U.Y0])};{refine wpList_append_grows n L s x t y r.e i z r.size f F G V H W h6 h7 (some (aE g)) r.n h.cap r.xs (by grind) (by simp) o.1 (by intro b hb j u hj;cases hb;rw[bO];exact o.cell E j u hj) B m c d N M K w (by omega) b1 b2 ?_;intro v' p A l;rcases A.2 with ⟨_,q⟩ | ⟨g',a,S,P,R,q3,q4,q5,q6,q7⟩;{omega};{have:=I g' a p ⟨A.1,by grind⟩ ⟨l.os,l.tape,l.output,l.size,λk hk _=>l.block k hk (by simp)⟩ (VW R);rwa [P]}}}
theorem CO(o E F c:TypeId)(g f a:Nat)(h:U)(r:eR)(b:Array Value)(t:TypeId)(C:D.underlying o=some (.slice c))(I:(D.info? c).map (·.size)=some a)(H:r.size=a)(w:n.heap[g]?=some (aJ b t))(l:aK n h r)(B:b.size=r.n*a)(u:∀v∈r.xs,v.oneCell'=true) :
  (Builtin.copy_ #[o,E] F #[Q (some (aE g)) r.n f,Q h.ao r.n h.cap]).run D n=.ok (goInt r.n) (n.setRow g r.xs.toArray):=by (have z:r.xs.length=r.n*a:=by have:=l.1;grind);(have d:=run_storeCells_at D g 0 t r.xs 0 b n w (by omega) u;have p:(b.toList.take (0+0)++r.xs++b.toList.drop (0+0+r.xs.length))=r.xs:=by simp_all);(rw[p]at d;have k:(Builtin.firstCells a r.n (Q h.ao r.n h.cap)).run D n=.ok r.xs.toArray n:=by rcases l.YX with ⟨e,G,q⟩ | ⟨s,m,e,_⟩;{rw[e,q];rfl};{rw[e];exact run_firstCells_some n a r.n (aE s) r.n h.cap r.xs z (λj v y=>by rw[bO];exact l.cell e j v y)});cases A:D.info? c with|none=>grind|some i=>(have x:i.size=a:=by grind);simp[Builtin.copy_,run_underlying C,Builtin.lenOf,sizeOf,typeInfo,A,x,k,d]
theorem yT(h:O y w T)(e:b∈y∨w.heap.size<=b)(c:Array Value):O y w (T.setRow b c) :=
 ⟨h.os,h.tape,h.output,by have:=h.size;simp_all,λk a d=>by
  rw[setRow_other T b k c (by grind)];exact h.block k a d⟩
theorem uq{P:Program}(d j k:TypeId)(g c:Nat)(h:U)(r:eR)(a:Array Value)(t:TypeId)(p:P.underlying d=some (.slice r.e))(o:(P.info? r.e).map (·.size)=some r.size)(f:n.heap[g]?=some (aJ a t))(m:aK n h r)(i:a.size=r.n*r.size)(l:∀v∈r.xs,v.oneCell'=true) :
  ∃b,(Builtin.copy_ #[d,j] k #[Q (some (aE g)) r.n c,Q h.ao r.n h.cap]).run P n=.ok (goInt r.n) b/\b.heap[g]?=some (aJ r.xs.toArray t)/\O [g] n b/\b.heap.size=n.heap.size :=
 ⟨_,by grind [CO],setRow_heap n g _ _ t _ f,yT (O.refl ..) (VY (by simp)) _,by simp⟩
theorem aK.made{r:eR}(c:w.heap[b]?=some (aJ r.xs.toArray r.e))(a:r.xs.length=r.n*r.size)(d:r.n<=maxLen):aK w ⟨some (aE b),r.n⟩ r :=
 ⟨a,VW ⟨b,r.n,r.xs.toArray,rfl,V5 _,c,VC _,d,by simpa using a,by simp[<-a]⟩⟩
theorem t7{P:Program}(t B:TypeId)(i:TypeInfo)(z:Value)(d:Nat)(h:U)(r:eR)(D:P.underlying t=some (.slice r.e))(E:P.info? r.e=some i)(L:i.zero=some z)(F:i.size=r.size)(M:i.bytes=d)(N:z.cells.size=r.size)(R:0<r.size)(l:aK n h r)(v:Addr)(m c:Nat)(b:List Value)(H:b.length=m*r.size)(G:∀j u,b[j]?=some u->n.cell? (v.add j)=some u)(y:∀u∈b,u.oneCell'=true)(hm:0<m)(b1:r.n+m<=maxLen)(b2:(r.n+m)*d<=140737488355328) :
  ∃g a o,(Builtin.append_ #[t,t] B #[Q h.ao r.n h.cap,Q (some v) m c]).run P n=.ok (Q (some (aE g)) (r.n+m) a) o /\
   aK o ⟨some (aE g),a⟩ ⟨r.e,r.size,r.n+m,r.xs++b⟩/\n.grownBy o h.Y0/\(h.Y0=some g∨n.heap.size<=g):=by rcases l.YX with ⟨x,A,C⟩ | ⟨g,w,x,A,C,e4,e5,e6⟩;{have⟨v',o,p,s,f,_⟩:=run_append_own (P:=P) n n.heap.size t B r.e i z r.size d D E L F M N R (Q none 0 0) 0 [] (VH n _ r.e r.size) v m c b H G y (by omega) (by grind) (VC _);rcases s.2 with ⟨_,q⟩ | ⟨g,a,w,q1,I,S,T,V,W,q7⟩;{omega};{refine⟨g,a,o,?_,⟨by have:=s.1;simpa [C,A] using this,VW ⟨g,a,w,by simp,V5 _,S,by simpa [A] using T,V,W,by simpa [A,C] using q7⟩⟩,?_,VW I⟩;{grind};{rwa [x]}}};{by_cases hf:r.n+m<=h.cap;{have⟨o,p,s,f⟩:=run_append_fits (P:=P) n 0 t B r.e i r.size D E F g r.n h.cap r.xs (by have:=l;unfold aK at this;rw[x]at this;exact this) v m c b H G y hf;exact⟨g,h.cap,o,by grind,s,by unfold U.Y0;rwa [x],by grind [U.Y0]⟩};{have⟨v',o,p,s,f⟩:=run_append_arg_grows (P:=P) n t B r.e i z r.size d D E L F M N R (aE g) r.n h.cap r.xs l.1 (by intro j u hj;rw[bO];exact l.cell x j u hj) v m c b H G (by omega) b1 b2;rcases s.2 with ⟨_,q⟩ | ⟨g',a,K,q1,I,S,T,V,W,q7⟩;{omega};{exact⟨g',a,o,by grind,⟨s.1,by grind⟩,⟨f.os,f.tape,f.output,f.size,λk hk _=>f.block k hk (by simp)⟩,VW I⟩}}}
theorem bL{K:Act->World->Prop}{E:Prop}(N:z4.guard=none)(s x:Operand)(t:TypeId)(q:z4.op=Op.call { callee:=Callee.builtin Builtin.append,args:=#[s,x],argTypes:=#[t,t] })(i:TypeInfo)(z:Value)(b:Nat)(h:U)(r:eR)(A:D.underlying t=some (.slice r.e))(B:D.info? r.e=some i)(C:i.zero=some z)(F:i.size=r.size)(G:i.bytes=b)(H:z.cells.size=r.size)(I:0<r.size)(S:z6.eval s=Q h.ao r.n h.cap)(f:aK w h r)(o:Addr)(m c:Nat)(a:List Value)(V:z6.eval x=Q (some o) m c)(R:a.length=m*r.size)(M:∀j u,a[j]?=some u->w.cell? (o.add j)=some u)(p:∀u∈a,u.oneCell'=true)(P:0<m)(v:r.n+m<=maxLen)(y:(r.n+m)*b<=140737488355328)(L:∀g d l,aK l ⟨some (aE g),d⟩ ⟨r.e,r.size,r.n+m,r.xs++a⟩->w.grownBy l h.Y0->(h.Y0=some g∨w.heap.size<=g)->K (z6.put z4.dst (Q (some (aE g)) (r.n+m) d)) l) :
  if Region.wanted z4 (yielded y6 z6.tmps)=true then Oper.wp D z4 z6 w K y8 else E:=by (have T:Region.wanted z4 (yielded y6 z6.tmps)=true:=by simp[Region.wanted,N]);rw[VO T];have⟨g,d,l,k,W,r2,r3⟩:=t7 (P:=D) w t z4.type i z b h r A B C F G H I f o m c a R M p P v y;unfold Oper.wp;simp[execOp,q,resolve,invoke,builtin,S,V,k,Result.andThen];exact L g d l W r2 r3
theorem cC{P:Program}(t e:TypeId)(i:TypeInfo)(z:Value)(f:P.underlying t=some (.slice e))(c:P.info? e=some i)(g:i.zero=some z)(a b:Nat)(d:i.size=b)(j:i.bytes*a<=281474976710656)(k:a<=1073741824) :
  (Instr.makeSlice t (J a) (J a)).run P n=.ok (Q (some (aE n.heap.size)) a a) (n.alloc (aJ (madeCells z.cells (a*b)) e)):=by have:=run_make (P:=P) n t e i z f c g i64 i64 a a (by omega) (YA _) (by omega) (by omega);grind
def kH(w:World)(x:Nat)(fs:Fs)(rep:Bool)(a b c:Value):Prop:=ce w x 80 fs [bool rep,a,b,c]
def zaU:Value:=Q none 0 0
def lP(w:World)(x:Nat)(fs:Fs):Prop:=kH w x fs false zaU zaU zaU
def mW(w:World)(x:Nat)(fs:Fs):Prop:=∃rep a b c,kH w x fs rep a b c
theorem lP.anyR{a:Fs}(h:lP w b a):mW w b a:=⟨_,_,_,_,h⟩
theorem kH.anyR{a:Fs}(h:kH w b a z7 v M t):mW w b a:=⟨_,_,_,_,h⟩
theorem lP.YZ{a:Fs}(h:lP w b a)(k:O y w T)(c:b∉y):lP T b a:=ce.YZ h k c
theorem mW.YZ{d:Fs}(h:mW w b d)(k:O y w T)(f:b∉y):mW T b d:=by have⟨r,a,e,c,h⟩:=h;exact⟨r,a,e,c,ce.YZ h k f⟩
theorem mW.lt{d:Fs}(h:mW w b d):b<w.heap.size:=by have⟨r,a,e,c,h⟩:=h;exact ce.lt h
theorem kH.cells{a:Fs}(h:kH w b a z7 v M t) :
  aP w b 9 (bool z7)/\aP w b 10 v/\aP w b 11 M/\aP w b 12 t:=by refine⟨?_,?_,?_,?_⟩ <;> exact bR h.1 rfl
def Jp(w:World)(x:Nat)(rep:Bool)(a b c:Value):World:=(((w.setCell (X x 9) (bool rep)).setCell (X x 10) a).setCell (X x 11) b).setCell (X x 12) c
theorem kH.turn{f:Fs}(h:kH w b f z7 v M t)(a:Bool)(c d e:Value):kH (Jp w b a c d e) b f a c d e:=by refine⟨?_,h.2⟩;unfold Jp;rw[ab (ab (ab (ab h.1 9 (bool a)) 10 c) 11 d) 12 e];rfl
theorem LT(h:O y w T)(d:b∈y∨w.heap.size<=b)(e:Bool)(a f c:Value):O y w (Jp T b e a f c) :=
 (((h.setCell d _).setCell d _).setCell d _).setCell d _
theorem zaT:aU 26 #[] n λe a=>e=cM (bh n.heap.size)/\lP a n.heap.size []/\aI n a:=by go_enter func26,ntmps26;go_wp2;go_ret;exact⟨rfl,⟨VD ..,by simp⟩,(O.refl ..).alloc _⟩
theorem Ar(f:Fs)(w:World)(h:mW w H f) :
  aU 32 #[bh H] w λe g=>e=cM (tuple #[])/\lP g H f/\O [H] w g:=by have⟨l,a,b,c,h⟩:=h;have⟨m,i,j,k⟩:=h.cells;have n:=ce.free h;have d:Z _:=h.turn false (Q none 0 0) (Q none 0 0) (Q none 0 0);unfold Jp at d;go_enter func32,ntmps32;go_wp2;go_end0;exact⟨rfl,d,LT (O.refl ..) (VY (by simp)) ..⟩
theorem UO(f:Fs)(w:World)(h:mW w x f)(s:S.size<=1073741824)(r:l.size<=4294967296) :
  aU 13 #[bh x,Y S,Y l] w λe n=>e=cM (J (gK f S l).1)/\mW n x (gK f S l).2/\((gK f S l).1=0->lP n x (gK f S l).2)/\O [x] w n:=by have⟨i,a,b,c,h⟩:=h;have d:Z _:=(Np x 80 S l f [bool i,a,b,c] w h s r);generalize gK f S l=t at *;have⟨q,j⟩:=t;simp only at d ⊢;cases u:(q==0);{go_enter func13,ntmps13;go_wp2_with fail;refine VL d ?_;rintro e p ⟨rfl,k,g⟩;go_wp2;go_ret;exact⟨rfl,⟨i,a,b,c,k⟩,by grind,g⟩};{go_enter func13,ntmps13;go_wp2_with fail;refine VL d ?_;rintro e p ⟨rfl,k,g⟩;go_wp2_with fail;refine(Ar x j p ⟨i,a,b,c,k⟩).mono ?_;rintro e v ⟨rfl,o,m⟩;go_wp2;go_ret;exact⟨rfl,o.anyR,λ_=>o,g.trans m⟩}
def fh(f:Nat->Int):Nat->Int
 | 0=>0
 | n+1=>if(fh f n==0)=true then f n else fh f n
theorem rF{n:Nat}(a:fh y0 b=0)(h:(y0 b==0)=false)(c:b<n):fh y0 n=y0 b:=by induction n with|zero=>omega|succ n d=>grind [fh]
def JG(fs:Fs)(i:Nat):Int:=if(dU (aO fs i) (ak fs i)==0)=false then dU (aO fs i) (ak fs i) else if 0<=cY (fs.take i) (aO fs i) then 4 else 0
def eN(fs:Fs):Int:=if 4<fs.length then 1 else fh (JG fs) fs.length
def lp(fs0 fs:Fs):Fs:=if eN fs=0 then fs else fs0
theorem tL{fs0 a:Fs}(h:eN a=y4)(b:y4≠0):lp fs0 a=fs0:=by grind [lp]
theorem Dv{fs0 a:Fs}(h:eN a=0):lp fs0 a=a:=by grind [lp]
theorem zcQ{n:Nat}(h:fh y0 n=0):∀i,i<n->y0 i=0:=by induction n with|zero=>simp|succ n a=>grind [fh]
theorem zaO{a:Fs}(h:eN a=0):a.length<=4/\∀j,j<a.length->(ak a j).size<=1024:=by grind [eN,zcQ,JG,dU]
def oB(fs:Fs):Prop:=∀j,(aO fs j).size<=1073741824/\(ak fs j).size<=1073741824
theorem E1:(prog.info? 68).map (λi=>(i.zero,i.size,i.bytes))=some (some (agg #[bN,bN]),2,32):=by kernel_rfl
def fiV(f:Vx×Vx):List Value:=[Y f.1,Y f.2]
def uZ(fs:Fs):List Value:=fs.flatMap fiV
def dE(fs:Fs):eR:=⟨68,2,fs.length,uZ fs⟩
theorem zH(a:Fs):(uZ a).length=a.length*2:=by induction a with|nil=>rfl|cons t L b=>grind [uZ,fiV]
theorem Ay(b:Fs)(j:Nat)(h:j<b.length):(uZ b)[j*2]?=some (Y (aO b j))/\(uZ b)[j*2+1]?=some (Y (ak b j)):=by induction b generalizing j with|nil=>simp at h|cons a L f=>{have e:uZ (a :: L)=Y a.1 :: Y a.2 :: uZ L:=rfl;cases j with|zero=>exact⟨rfl,rfl⟩|succ j=>obtain⟨c,d⟩:=f j (by simpa using h);rw[e,show(j+1)*2=j*2+1+1 by omega];exact⟨c,d⟩}
theorem MQ(b:Fs)(k:Nat)(n d:Vx)(h:k<b.length):((uZ b).set (k*2) (Y n)).set (k*2+1) (Y d)=uZ (b.set k (n,d)):=by induction b generalizing k with|nil=>simp at h|cons a L c=>{have e:∀x:Vx×Vx,uZ (x :: L)=Y x.1 :: Y x.2 :: uZ L:=λ_=>rfl;cases k with|zero=>rfl|succ k=>rw[List.set_cons_succ,show(k+1)*2=k*2+1+1 by omega,e];show _=Y a.1 :: Y a.2 :: uZ (L.set k (n,d));grind}
theorem Bw(a:Fs)(t:Vx×Vx):(⟨(dE a).e,(dE a).size,(dE a).n+1,(dE a).xs++fiV t⟩:eR)=dE (a++[t]):=by simp[dE,uZ]
theorem MP(a:Fs):∀u∈uZ a,u.oneCell'=true:=by intro u b;obtain⟨x,-,h⟩:=Yr.1 b;unfold fiV at h;simp only[List.mem_cons,List.not_mem_nil,or_false]at h;rcases h with rfl | rfl <;> rfl
structure It where
 B:VB
 P:World->Prop
 lt:∀w,P w->∀b,b∈B->b<w.heap.size
 ok:∀S w w',P w->O S w w'->(∀b,b∈B->b∉S)->P w'
def gZ(I:Nat×Nat->It)(k:Nat×Nat)(it:It):Nat×Nat->It:=λq=>if q=k then it else I q
theorem dr(I:Nat×Nat->It)(k:Nat×Nat)(a:It):gZ I k a k=a:=by grind [gZ]
theorem aD(I:Nat×Nat->It){k q:Nat×Nat}(a:It)(h:q≠k):gZ I k a q=I q:=by grind [gZ]
theorem cm(h:b≠y2):((b,f):Nat×Nat)≠(y2,y7):=by grind
theorem xZ(h:f≠y7):((b,f):Nat×Nat)≠(y2,y7):=by grind
structure ru(w:World)(I:Nat×Nat->It):Prop where
 all:∀k,(I k).P w
 far:∀k k',k≠k'->∀b,b∈(I k).B->b∉(I k').B
theorem ru.YM{I:Nat×Nat->It}(h:ru w I)(k:aI w T):ru T I :=
 ⟨λq=>(I q).ok [] w T (h.all q) k (by simp),h.far⟩
theorem ru.put{w':World}{I:Nat×Nat->It}(h:ru w I)(k:Nat×Nat)(c:It)(K:O (I k).B w w')(m:c.P w')(l:∀b,b∈c.B->b∈(I k).B∨w.heap.size<=b):ru w' (gZ I k c):=by refine⟨λq=>?_,λq f i b d a=>?_⟩;{by_cases e:q=k;{subst e;rwa [dr]};{rw[aD I c e];exact(I q).ok _ w w' (h.all q) K (h.far q k e)}};{by_cases e:q=k;{subst e;rw[dr]at d;rw[aD I c (Ne.symm i)]at a;rcases l b d with g | g;{exact h.far q f i b g a};{have:=(I f).lt w (h.all f) b a;omega}};{rw[aD I c e]at d;by_cases j:f=k;{subst j;rw[dr]at a;rcases l b a with g | g;{exact h.far q f i b d g};{have:=(I q).lt w (h.all q) b d;omega}};{rw[aD I c j]at a;exact h.far q f i b d a}}}
theorem ru.put2{I:Nat×Nat->It}(h:ru w I)(a c:Nat×Nat)(C:a≠c)(d e:It)(K:O ((I a).B++(I c).B) w T)(D:d.P T)(E:e.P T)(t:∀b,b∈d.B->b∈(I a).B∨w.heap.size<=b)(u:∀b,b∈e.B->b∈(I c).B∨w.heap.size<=b)(A:∀b,b∈d.B->b∉e.B):ru T (gZ (gZ I a d) c e):=by (have r:∀q,q≠a->q≠c->∀b,b∈(I q).B->b∉d.B/\b∉e.B:=λq g m b i=>by have:=(I q).lt w (h.all q) b i;refine⟨λx=>?_,λx=>?_⟩;{rcases t b x with l | l;{exact h.far q a g b i l};{omega}};{rcases u b x with l | l;{exact h.far q c m b i l};{omega}});(have o:gZ (gZ I a d) c e a=d:=by grind [aD,dr]);(have p:gZ (gZ I a d) c e c=e:=dr ..;have n:∀q,q≠a->q≠c->gZ (gZ I a d) c e q=I q:=by grind [aD]);refine⟨λq=>?_,λq j y b g m=>?_⟩;{by_cases k:q=a;{subst k;rwa [o]};{by_cases f:q=c;{subst f;rwa [p]};{rw[n q k f];exact(I q).ok _ w T (h.all q) K (λb i v=>(V7.1 v).elim (h.far q a k b i) (h.far q c f b i))}}};{by_cases k:q=a;{subst k;rw[o]at g;by_cases f:j=c;{grind};grind};{by_cases f:q=c;{subst f;rw[p]at g;by_cases s:j=a;{grind};grind};{rw[n q k f]at g;by_cases s:j=a;{grind};{by_cases z:j=c;{grind};{rw[n j s z]at m;exact h.far q j y b g m}}}}}
structure Tk where
 s:Vx
 Y9:Int
 Y6:Vx
 Y7:Int
 Y8:Int
def LQ(t:Tk):List Value:=[Y t.s,J t.Y9,Y t.Y6,J t.Y7,J t.Y8]
def tkC(L:List Tk):List Value:=L.flatMap LQ
def ki(L:List Tk):eR:=⟨138,5,L.length,tkC L⟩
theorem zdk(L:List Tk)(j:Nat)(t:Tk)(h:L[j]?=some t)(c:Nat)(b:c<5):(tkC L)[j*5+c]?=(LQ t)[c]?:=by induction L generalizing j with|nil=>cases h|cons a L d=>{have e:tkC (a :: L)=LQ a++tkC L:=rfl;cases j with|zero=>grind [LQ]|succ j=>grind [LQ]}
theorem DL(L:List Tk)(t:Tk):(⟨(ki L).e,(ki L).size,(ki L).n+1,(ki L).xs++LQ t⟩:eR)=ki (L++[t]):=by simp[ki,tkC]
def eI(d:Vx):Nat->Nat
 | 0=>0
 | i+1=>if dN (aR d i)=true then i+1 else eI d i
def qw(nm d:Vx)(s:Vx)(r:Int)(k:Nat):Tk:=⟨s,r,nm,bA d k,bY d k⟩
def kQ(nm d:Vx)(a z:Nat)(L:List Tk):List Tk:=if a=z then L else L++[qw nm d (d.extract a z) 0 a]
def lj(nm d:Vx):Nat->List Tk
 | 0=>[]
 | i+1=>if dN (aR d i)=true then kQ nm d (eI d i) i (lj nm d i) else lj nm d i
def uR(n:Int):Bool:=!gW n && !dN n
def nV(d:Vx):Option Nat:=(List.range d.size).find? (λi=>uR (aR d i))
def jN(nm d:Vx):List Tk:=match nV d with
 | some i=>lj nm d i++[qw nm d ⟨#[]⟩ 1 i]
 | none=>kQ nm d (eI d d.size) d.size (lj nm d d.size)++[qw nm d ⟨#[]⟩ 0 d.size]
theorem rr(i:Nat):eI l i<=i:=by induction i with|zero=>exact VC _|succ i a=>grind [eI]
theorem yE(L:List Tk):(kQ S l d H L).length<=L.length+1:=by grind [kQ]
theorem Cj(i:Nat):(lj S l i).length<=i:=by induction i with|zero=>exact VC _|succ i a=>grind [lj,yE,eI]
theorem Ek:(jN S l).length<=l.size+2:=by unfold jN;split;{next i h => have:=VZ.1 (V3 h);grind [Cj]};grind [yE,eI,lj,Cj]
def wi(s u:Vx)(i:Nat):Bool:=((s.extract i (i+u.size)).toList==u.toList)
def jX(s u:Vx):Bool:=(List.range (s.size+1)).any (λi=>decide (i+u.size<=s.size)&&wi s u i)
def MZ(t:Vx)(l:List UInt8):Bool:=(t.toList==l)
def cZ:Bool->List Tk->List Tk
 | _,[]=>[]
 | false,t :: r=>if MZ t.s [36,40]=true then cZ true r else t :: cZ false r
 | true,t :: r =>
  if(t.Y9==0)=false then t :: cZ true r
  else if MZ t.s [36,41]=true then cZ false r
  else if MZ t.s []=true then⟨⟨#[]⟩,3,t.Y6,t.Y7,t.Y8⟩ :: cZ true r
  else if(jX t.s ⟨#[36,40]⟩||jX t.s ⟨#[36,41]⟩)=true then [⟨⟨#[]⟩,2,t.Y6,t.Y7,t.Y8⟩]
  else cZ true r
theorem Rj(b:Bool)(L:List Tk):(cZ b L).length<=L.length:=by induction L generalizing b with|nil=>cases b <;> simp[cZ]|cons t L a=>have c:=a true;have d:=a false;cases b;{grind [cZ]};grind [cZ]
def mX(w:World)(ao:Vz)(fs:Fs):Prop:=∀k,k<fs.length->∃g o,ao=some (X g o)/\g<w.heap.size/\w.cell? (X g (o+k*2))=some (Y (aO fs k))/\w.cell? (X g (o+k*2+1))=some (Y (ak fs k))
theorem mX.YZ{b:Fs}(h:mX w y1 b)(k:O y w T)(d:∀a,y1=some a->a.block∉y):mX T y1 b:=by intro j f;have⟨g,o,e,c,l,m⟩:=h j f;have q:∀i,T.cell? (X g i)=w.cell? (X g i):=λi=>Wc (k.block g c (d _ e));exact⟨g,o,e,VG c k.size,by grind,by grind⟩
theorem zaq(a:Fs)(k:Nat)(h:k<a.length):a.take k++[(aO a k,ak a k)]=a.take (k+1):=by rw[WV,VI h];grind [aO,ak]
def Jo(w:World)(v:Nat)(fs:Fs):World:=((((((((w.setCell (aE v) (Y (aO fs 0))).setCell (X v 1) (Y (ak fs 0))).setCell (X v 2) (Y (aO fs 1))).setCell (X v 3) (Y (ak fs 1))).setCell (X v 4) (Y (aO fs 2))).setCell (X v 5) (Y (ak fs 2))).setCell (X v 6) (Y (aO fs 3))).setCell (X v 7) (Y (ak fs 3))).setCell (X v 8) (J fs.length)
theorem Uy(c a:Fs)(b:List Value):(((((((((rY c++b).set 0 (Y (aO a 0))).set 1 (Y (ak a 0))).set 2 (Y (aO a 1))).set 3 (Y (ak a 1))).set 4 (Y (aO a 2))).set 5 (Y (ak a 2))).set 6 (Y (aO a 3))).set 7 (Y (ak a 3))).set 8 (J a.length)=rY a++b:=rfl
theorem ce.over{c a:Fs}(h:ce w b f c m)(d:a.length<=4):ce (Jo w b a) b f a m:=by refine⟨?_,d⟩;unfold Jo;rw[ab (ab (ab (ab (ab (ab (ab (ab (ab h.1 0 _) 1 _) 2 _) 3 _) 4 _) 5 _) 6 _) 7 _) 8 _];simp[Uy]
theorem LS(h:O y w T)(a:b∈y∨w.heap.size<=b)(c:Fs):O y w (Jo T b c) :=
 ((((((((h.setCell a _).setCell a _).setCell a _).setCell a _).setCell a _).setCell a _).setCell a _).setCell a _).setCell a _
theorem ce.nine{a:Fs}(h:ce w b f a m) :
  aP w b 0 (Y (aO a 0))/\aP w b 1 (Y (ak a 0))/\aP w b 2 (Y (aO a 1))/\aP w b 3 (Y (ak a 1))/\aP w b 4 (Y (aO a 2))/\aP w b 5 (Y (ak a 2))/\aP w b 6 (Y (aO a 3))/\aP w b 7 (Y (ak a 3))/\aP w b 8 (J a.length):=by refine⟨?_,?_,?_,?_,?_,?_,?_,?_,?_⟩ <;> exact bR h.1 rfl
set_option maxRecDepth 100000
theorem OU(f a:Fs)(j:List Value)(ao:Vz)(ad:Nat)(w:World)(h:ce w d H f j)(hS:mX w ao a)(al:oB a) :
  aU 47 #[bh d,Q ao a.length ad] w λe m=>e=cM (J (eN a))/\ce m d H (lp f a) j/\O [d] w m:=by have M:Z (ce w d H f j):=h;by_cases h4:4<a.length;{(have z:Z (eN a=1):=by show _=_;grind [eN]);(have L:Z _:=(tL (fs0:=f) z (by decide));rw[z.o];have af:(4:Int)<a.length:=by omega);go_enter func47,ntmps47;go_wp2;go_ret;exact⟨rfl,by rwa [L.o],O.refl ..⟩};{(have z:Z (eN a=fh (JG a) a.length):=by show _=_;grind [eN]);(have⟨r,F⟩:=aX (eN a);rw[F.o]at z ⊢;have af:¬(4:Int)<a.length:=by omega);(have HS:Z (mX w ao a):=hS;have C:Z _:=al;have⟨W,R⟩:=aX (w.alloc (aJ #[bN,bN,bN,bN,bN,bN,bN,bN,J 0] 73));have K:Z _:=dI R;have P:Z (ce W w.heap.size 73 (a.take 0) []):=by show ce _ _ _ _ _;rw[<-R.o];exact⟨VD ..,by simp⟩);go_enter func47,ntmps47;go_upto_region 4 with fail;rw[R.o];go_wp2;go_loopg [6] a.length (λg iv wr=>∃k:Nat,k<=a.length/\g=a.length-k/\iv=J k/\Z (fh (JG a) k=0)/\Z (ce wr w.heap.size 73 (a.take k) [])/\Z (aI w wr));{exact⟨0,by omega,rfl,rfl,rfl,P,K⟩};obtain⟨k,hk,hg,rfl,T,v,s⟩:=hrel;rcases kn k a.length with ⟨p,ar⟩ | ⟨p,-⟩;{obtain⟨D,o0,rfl,y,c0,c1⟩:=(mX.YZ HS s (by simp)) k p;have HC:Z (∀m,aI wr m->aP m D (o0+k*2) (Y (aO a k))/\aP m D (o0+k*2+1) (Y (ak a k))/\D<m.heap.size):=λm kw=>⟨po (kw.block D y (by simp)) c0,po (kw.block D y (by simp)) c1,VG y kw.size⟩;(have A:Z (∀b,aU 48 #[Y (aO a k),Y (ak a k)] b (iw (J (dU (aO a k) (ak a k))) b)):=λb=>qL _ _ b (C k).1 (by have:=(C k).2;omega);have t:Z (∀b,ce b w.heap.size 73 (a.take k) []->aU 49 #[bh w.heap.size,Y (aO a k)] b (iw (J (cY (a.take k) (aO a k))) b)):=λb hx=>nU _ _ _ _ _ b hx;have hl:(a.take k).length=k:=(by rw[Xb];omega);have G:Z (∀b,ce b w.heap.size 73 (a.take k) []->aU 50 #[bh w.heap.size,agg #[Y (aO a k),Y (ak a k)]] b λe m=>e=cM (tuple #[])/\ce m w.heap.size 73 (a.take (k+1)) []/\O [w.heap.size] b m):=λb hx=>by rw[<-zaq a k p];exact Mw _ _ _ _ _ _ b hx (by omega));(have l:Z (JG a k=if(dU (aO a k) (ak a k)==0)=false then dU (aO a k) (ak a k) else if 0<=cY (a.take k) (aO a k) then 4 else 0):=rfl;have B:Z ((JG a k==0)=false->r=JG a k):=λq=>by rw[z.o];exact rF T q p);(have I:Z (JG a k=0->fh (JG a) (k+1)=0):=λq=>by rwa [fh,T.o]);generalize aO a k=nm at *;generalize ak a k=dt at *;have⟨ck,V⟩:=aX (dU nm dt);rw[V.o]at A l;have⟨fi,ac⟩:=aX (cY (a.take k) nm);rw[ac.o]at t l;(go_upto_region 7 with fail);go_region_with (go_at_call 48;refine de (A _) λw9 ap=>?_);all_goals((subst ap;have⟨w9,H9⟩:=aX (wr.drew);rw[H9.o];have c:Z (aI wr w9):=by show O ..;rw[<-H9.o];exact(O.refl [] wr).drew);cases i:(ck==0);{rw[i,VO rfl]at l;have n:Z _:=B (l.o ▸ i);rw[l.o]at n;have ag:(ck != 0)=true:=(by unfold bne;rw[i];rfl);go_wp2;go_ret;exact⟨aw n.o.symm,by rw[tL (F.o.trans n.o) (λq=>by rw[q]at i;cases i)];exact ce.YZ M (s.o.trans c) (by simp),(s.o.trans c).mono (by simp)⟩};{rw[i,mt]at l;have ag:(ck != 0)=false:=(by unfold bne;rw[i];rfl);have⟨d0,d1,d2⟩:=HC w9 c;have u:Z _:=ce.YZ v c (by simp);by_cases E:0<=fi;{rw[VO E]at l;have n:Z _:=(B (by rw[l.o];rfl));rw[l.o]at n;go_wp2_with (go_at_call 49;refine dZ (t _ u) ?_);go_ret;exact⟨aw n.o.symm,by rw[tL (F.o.trans n.o) (by decide)];exact ce.YZ M (s.o.trans c) (by simp),(s.o.trans c).mono (by simp)⟩};{rw[VS E]at l;have HM:Z _:=I l;(go_upto_region 12 with (go_at_call 49;refine dZ (t _ u) ?_));go_wp2_with (go_at_call 50;refine(G _ u).mono ?_;rintro e w8 ⟨rfl,am,ai⟩);go_roundg (a.length-(k+1));{exact⟨k+1,by omega,rfl,by go_num,HM,am,((s.o.trans c).mono (S':=[w.heap.size]) (by simp)).trans ai |>.mono (by simp)⟩};omega}})};{(have e:k=a.length:=(by omega);subst e;have n:Z (r=0):=cI (z.o ▸ T);have av:¬(a.length:Int)<a.length:=by omega);rw[Wl]at v;have⟨q0,q1,q2,q3,q4,q5,q6,q7,q8⟩:=ce.nine v;have x:Z _:=ce.YZ M s (by simp);have⟨p0,p1,p2,p3,p4,p5,p6,p7,p8⟩:=ce.nine x;have aq:=ce.free x;have N:Z (ce (Jo wr d a) d H a j):=ce.over x (by omega);unfold Jo at N;have S:Z _:=Dv (fs0:=f) (F.o.trans n);go_wp2;go_ret;exact⟨aw n.o.symm,by rwa [S.o],LS (s.o.mono (by simp)) (VY (by simp)) _⟩}}
def LdV(w':World)(x:Nat)(fs0 fs:Fs)(rep:Bool)(a b c:Value):Prop:=(eN fs=0->lP w' x (lp fs0 fs))/\(eN fs≠0->kH w' x (lp fs0 fs) rep a b c)
set_option maxRecDepth 512
theorem QF(d g:Fs)(f:Bool)(a b c:Value)(l:Vz)(k:Nat)(w:World)(h:kH w H d f a b c)(t:mX w l g)(p:oB g) :
  aU 29 #[bh H,Q l g.length k] w λe q=>e=cM (J (eN g))/\LdV q H d g f a b c/\O [H] w q:=by unfold LdV;have j:Z _:=OU H 80 d g [bool f,a,b,c] l k w h t p;generalize eN g=s at *;generalize lp d g=m at *;cases v:(s==0);{go_enter func29,ntmps29;go_wp2_with (go_at_call 47;refine VL j ?_;rintro e r ⟨rfl,n,i⟩);go_ret;exact⟨rfl,⟨by grind,λ_=>n⟩,i⟩};{go_enter func29,ntmps29;go_upto_region 3 with (go_at_call 47;refine VL j ?_;rintro e r ⟨rfl,n,i⟩);go_wp2_with (go_at_call 32;refine(Ar H m r ⟨f,a,b,c,n⟩).mono ?_;rintro e x ⟨rfl,u,o⟩);go_ret;exact⟨rfl,by grind,i.trans o⟩}
theorem zby(f:Fs)(d:Bool)(a b c:Value)(w:World)(h:kH w x f d a b c)(p:S.size<=1073741824)(o:l.size<=4294967296)(q:(gK f S l).1≠0) :
  aU 13 #[bh x,Y S,Y l] w λe j=>e=cM (J (gK f S l).1)/\kH j x (gK f S l).2 d a b c/\O [x] w j:=by (have g:Z _:=Np x 80 S l f [bool d,a,b,c] w h p o;generalize gK f S l=r at *;have⟨k,m⟩:=r;simp only at g q ⊢;have s:(k==0)=false:=by grind);go_enter func13,ntmps13;go_wp2_with (go_at_call 31;refine VL g ?_;rintro e t ⟨rfl,n,i⟩);go_ret;exact⟨rfl,n,i⟩
theorem Ju(f:Fs)(n:Vx)(d:Bool)(a b c:Value)(w:World)(h:kH w H f d a b c)(y:cY f n<0) :
  aU 35 #[bh H,Y n] w λe t=>e=cM (tuple #[agg #[J 0,bN,J 0,J 0],J 5])/\kH t H f d a b c/\O [H] w t:=by (have⟨W,k⟩:=aX (w.alloc (aJ #[J 0,bN,J 0,J 0] 87));have l:Z _:=dI k;have m:=dL k;have⟨x,i⟩:=aX (cY f n);rw[i.o]at y;have j:Z (aU 49 #[bh H,Y n] W (iw (J x) W)):=by show Calls ..;rw[<-i.o];exact nU H _ f _ n W (ce.YZ h l (by simp)));have⟨z,A,B,C⟩:=Ak m;have D:=au m;have g:Z (∀p q r s,aI w ((((W.setCell (aE w.heap.size) p).setCell (X w.heap.size 1) q).setCell (X w.heap.size 2) r).setCell (X w.heap.size 3) s)):=λp q r s=>(((l.o.sr1 (VC _) _).sr1 (VC _) _).sr1 (VC _) _).sr1 (VC _) _;have u:Z (kH w H f d a b c):=h;go_enter func35,ntmps35;go_upto_region 1 with fail;rw[k.o];go_wp2_with (go_at_call 49;refine dZ j ?_);exact VJ (v:=tuple #[agg #[J 0,bN,J 0,J 0],J 5]) (by simp[results,results35,go_sem,z,A,B,C]) rfl ⟨rfl,ce.YZ u (g ..) (by simp),(g ..).mono (by simp)⟩
def ui(c:Int):Prop:=-9223372036854775808<=c/\c<=9223372036854775807
def kO(c:Int)(n:Nat):Nat:=((if c<0 then -(c+1) else c).tmod n).toNat
theorem iE(b:1<=H):kO i H<H:=by unfold kO;split;{have a:0<=(-(i+1)).tmod H/\(-(i+1)).tmod H<H:=⟨X9 _ (by omega),XH _ (by omega)⟩;omega};{have a:0<=i.tmod H/\i.tmod H<H:=⟨X9 _ (by omega),XH _ (by omega)⟩;omega}
theorem gj(f:ui i)(l:1<=x/\x<=4294967296) :
  aU 11 #[J i,J x] n (iw (J (kO i x:Nat)) n):=by have⟨g,j⟩:=f;by_cases k:i<0;{have a:0<=(-(i+1)).tmod x/\(-(i+1)).tmod x<x:=⟨X9 _ (by omega),XH _ (by omega)⟩;have b:Z _:=a;have c:Z (kO i x=((-(i+1)).tmod x).toNat):=cI (by grind [kO]);go_enter func11,ntmps11;go_wp2;(all_goals go_ret);all_goals(have a:=b.o;refine⟨aw ?_,rfl⟩;rw[c.o];first | (simp[Int.neg_tmod]at *;omega) | (rw[Int.toNat_of_nonneg a.1]))};{have a:0<=i.tmod x/\i.tmod x<x:=⟨X9 _ (by omega),XH _ (by omega)⟩;(have d:i.tmod x=i % x:=by grind);have⟨b,e⟩:=jy a d;have c:Z (kO i x=(i.tmod x).toNat):=cI (by grind [kO]);go_enter func11,ntmps11;go_wp2;(all_goals go_ret);all_goals(have a:=b.o;have d:=e.o;refine⟨aw ?_,rfl⟩;rw[c.o];omega)}
theorem qE(d:Vz)(p q:Nat)(a:Fs)(w:World)(r:mX w zf a)(s:mX w d a)(I:a.length<=4294967296) :
  aU 25 #[Q zf a.length p,Q d a.length q] w λe v=>e=cM (bool true)/\∃n,v=w.drewN n:=by have j:Z (mX w zf a):=r;have l:Z (mX w d a):=s;go_enter func25,ntmps25;go_wp2;go_loopg [5] a.length (λg i wr=>∃k:Nat,k<=a.length/\g=a.length-k/\i=J k/\Z (∃n,wr=w.drewN n));{exact⟨0,by omega,by omega,rfl,0,rfl⟩};(obtain⟨k,H,G,rfl,c⟩:=hrel;have f:Z (aI w wr):=by show O _ _ _;obtain⟨n,e⟩:=c.o;rw[e];exact(O.refl [] w).drewN n);rcases kn k a.length with ⟨b,t⟩ | ⟨b,u⟩;{obtain⟨C,L,rfl,E,x,y⟩:=(mX.YZ j f (by simp)) k b;obtain⟨D,M,rfl,F,z,A⟩:=(mX.YZ l f (by simp)) k b;generalize aO a k=K at *;generalize ak a k=B at *;go_upto_region 6 with fail;(go_quiet (fail);have m:Z (∃n,wr.drewN nq=w.drewN n):=by show ∃_,_;have⟨n,e⟩:=c.o;exact⟨n+nq,by rw[e,XJ]⟩);go_wp2;go_roundg (a.length-(k+1));{grind};omega};{go_wp2;go_ret;exact⟨rfl,c⟩}
theorem J9{P:Program}(p E F:TypeId)(g m c k:Nat)(d:Vz)(r:eR)(a:Array Value)(t:TypeId)(D:P.underlying p=some (.slice r.e))(G:(P.info? r.e).map (·.size)=some r.size)(q:n.heap[g]?=some (aJ a t))(A:r.n=k)(z:r.xs.length=r.n*r.size)(u:d=none->r.xs=[])(x:∀b,d=some b->∀j v,r.xs[j]?=some v->n.cell? (b.add j)=some v)(C:a.size=r.n*r.size)(w:∀v∈r.xs,v.oneCell'=true) :
  ∃l,(Builtin.copy_ #[p,E] F #[Q (some (aE g)) k m,Q d k c]).run P n=.ok (goInt k) l/\l.heap[g]?=some (aJ r.xs.toArray t)/\O [g] n l/\l.heap.size=n.heap.size:=by (subst A;refine⟨n.setRow g r.xs.toArray,?_,setRow_heap n g _ _ t _ q,yT (O.refl ..) (VY (by simp)) _,by simp⟩;have f:=run_storeCells_at P g 0 t r.xs 0 a n q (by omega) w;have s:(a.toList.take (0+0)++r.xs++a.toList.drop (0+0+r.xs.length))=r.xs:=by simp_all);(rw[s]at f;have o:(Builtin.firstCells r.size r.n (Q d r.n c)).run P n=.ok r.xs.toArray n:=by cases d with|none=>rw[u rfl];rfl|some b=>exact run_firstCells_some n r.size r.n b r.n c r.xs z (x b rfl));cases B:P.info? r.e with|none=>grind|some i=>(have y:i.size=r.size:=by grind);simp[Builtin.copy_,run_underlying D,Builtin.lenOf,sizeOf,typeInfo,B,y,o,f]
theorem mX.cells{b:Fs}(h:mX w y1 b):(y1=none->uZ b=[])/\∀c,y1=some c->∀j v,(uZ b)[j]?=some v->w.cell? (c.add j)=some v:=by refine⟨λe=>?_,λc e j v p=>?_⟩;{cases b with|nil=>rfl|cons a L=>have⟨g,o,d,_⟩:=h 0 (by simp);grind};{(have n:j<b.length*2:=by grind [zH]);have⟨g,o,d,_,f,i⟩:=h (j / 2) (by omega);rw[e]at d;cases d;(have⟨l,m⟩:=Ay b (j / 2) (by omega);have k:((X g o):Addr).add j=(X g (o+j)):=by simp[Addr.add]);grind}
theorem lE(a:Fs)(w:World)(r:mX w zf a)(C:a.length<=1073741824) :
  aU 28 #[Q zf a.length H] w λe t=>e=cM (Q (some (aE w.heap.size)) a.length a.length)/\t.heap[w.heap.size]?=some (aJ (uZ a).toArray 68)/\aI w t:=by have⟨z,s,m,g,y⟩:=VT E1;have A:=λw=>cC (P:=prog) w 33 68 z _ underlying33 s m a.length 2 g (by grind) (by omega);have⟨d,b⟩:∃B,B=madeCells (agg #[bN,bN]).cells (a.length*2):=⟨_,rfl⟩;(have v:d.size=a.length*2:=by rw[b,Wq]);(rw[<-b]at A;clear b;have⟨W,k⟩:=aX (w.alloc (aJ d 68));have p:=dI k;have q:=dL k;have c:(prog.info? (dE a).e).map (·.size)=some (dE a).size:=by simp[dE,s,g]);have l:=(r.YZ p (by simp)).cells;have⟨u,x,oF,f,n⟩:=J9 (P:=prog) W 33 33 3 w.heap.size a.length H a.length zf (dE a) d 68 underlying33 c q rfl (zH a) l.1 l.2 v (MP a);have i:Z (u.heap[w.heap.size]?=some (aJ (uZ a).toArray 68)):=oF;have j:Z (aI w u):=((p.mono (S':=[w.heap.size]) (by simp)).trans f).mono (by simp);clear r p q l c oF f n v;go_enter func28,ntmps28;go_upto_region 2 with fail;rw[k.o];go_wp2;go_ret;exact⟨rfl,i,j⟩
end Go.Proofs.YtpdholcaobgofaaGreat
