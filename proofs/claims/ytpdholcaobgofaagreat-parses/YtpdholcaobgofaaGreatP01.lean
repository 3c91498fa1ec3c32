import Derived.Test.YtpdholcaobgofaaGreatChecked
import Derived.WalkKit
import Derived.WalkSpells
import Derived.WalkLawsBesides
import Derived.Deep.QuietTactic
import Derived.BigQuiet
import Derived.Deep.LoopGhost
import Derived.Laws.CopyRow
import Derived.Laws.MakeOwn
import Derived.Deep.RegionLaw
namespace Go.Proofs.YtpdholcaobgofaaGreat
open Go.RowKit Tryz
open Value IntKind Ending
set_option maxHeartbeats 0
abbrev Xr:=ByteArray
abbrev Xs:=List ByteArray
abbrev Xt:=Option Addr
abbrev Xu:=List Nat
variable{x:Xu}{w S:World}{l f y0 y1:Nat}{g:Array Value}{y2:Obj}{m:Program}{i L M z0 z3 z8:Value}{z2:Bool}{zf:Int}{D v:Xr}{N:List Value}{zt:Array Oper}{s:Oper}{z1:Act}{y3:Exit->Act->World->Prop}{z4:Nat->Int}{z6 z5:Nat×Nat}(d:Xr)(I y:Nat)(n b:Xr)(z7:Int)(T:World)(a H:Nat)
def Xq(p:Prop):Prop:=p
theorem Xq.o{p:Prop}(h:Xq p):p:=h
abbrev Xv:=@List.getElem?_eq_getElem
abbrev Xw:=@List.getD_eq_getElem?_getD
abbrev Xx:=@Go.Calls.mono
abbrev Xy:=@Nat.le_refl
abbrev Xz:=@if_neg
abbrev XA:=@if_pos
abbrev XB:=@Nat.lt_of_lt_of_le
abbrev XC:=@List.length_append
abbrev XD:=@Go.heap_alloc_new
abbrev XE:=@Go.World.ownsRow_nil
abbrev XF:=@Nat.le_trans
abbrev XG:=@Go.bodyPost_ret
abbrev XH:=@List.mem_singleton
abbrev XI:=@List.mem_range
abbrev XJ:=@Go.World.cell?_of_block
abbrev XK:=@Or.inr
abbrev XL:=@List.getElem?_eq_some_iff
abbrev XM:=@List.getElem_mem
abbrev XN:=@Go.RowKit.Below.heap_setCell
abbrev XO:=@List.getElem?_append_right
abbrev XP:=@List.getElem?_append_left
abbrev XQ:=@Or.inl
abbrev XR:=@Nat.one_pos
abbrev XS:=@List.mem_of_find?_eq_some
abbrev XU:=@Bool.and_eq_true
abbrev XV:=@Go.info_parts
abbrev XW:=@Go.Calls.quiet_of_same
abbrev XX:=@Nat.zero_le
abbrev XY:=@List.eq_nil_of_length_eq_zero
abbrev XZ:=@List.length_map
abbrev X0:=@List.drop_eq_getElem_cons
abbrev X6:=@beq_eq_false_iff_ne
abbrev X9:=@List.mem_append
abbrev Ya:=@List.append_nil
abbrev Yb:=@List.getElem?_eq_none
abbrev Yc:=@List.take_succ_eq_append_getElem
abbrev Yd:=@List.mem_cons
abbrev Ye:=@List.length_cons
abbrev Yf:=@List.mem_cons_of_mem
abbrev Yg:=@List.mem_cons_self
abbrev Yh:=@List.setIfInBounds_toArray
abbrev Yi:=@List.getElem?_map
abbrev Yj:=@List.map_append
abbrev Yk:=@Bool.false_eq_true
abbrev Yl:=@List.take_length
abbrev Ym:=@List.length_drop
abbrev Yn:=@List.length_nil
abbrev Yo:=@Bool.or_eq_true
abbrev Yp:=@Array.getElem?_setIfInBounds
abbrev Yq:=@List.length_set
abbrev Yr:=@List.getElem_of_mem
abbrev Ys:=@Nat.le_of_lt
abbrev Yt:=@List.mem_filter
abbrev Yu:=@List.any_eq_true
abbrev Yv:=@List.getElem?_set
abbrev Yw:=@Bool.or_eq_false_iff
abbrev Yx:=@List.mem_append_left
abbrev Yy:=@List.filter_append
abbrev Yz:=@List.flatMap_cons
abbrev YA:=@Nat.sub_self
abbrev YB:=@decide_eq_false
abbrev YC:=@List.not_mem_nil
abbrev YD:=@List.find?_eq_none
abbrev YE:=@List.length_filter_le
abbrev YF:=@Nat.mul_le_mul
abbrev YG:=@List.range_succ
abbrev YH:=@List.mem_of_getElem?
abbrev YI:=@List.drop_append_of_le_length
abbrev YJ:=@Go.size_madeCells
abbrev YK:=@Go.ByteArray.toList_eq
abbrev YL:=@List.length_take
abbrev YM:=@Nat.add_zero
abbrev YN:=@List.mem_map
abbrev YO:=@Int.toNat_natCast
abbrev YP:=@List.all_eq_true
abbrev YQ:=@List.drop_of_length_le
abbrev YR:=@List.ext_getElem?
abbrev YS:=@Go.IntKind.wrap_i64
abbrev YT:=@List.mem_append_right
abbrev YU:=@List.map_congr_left
abbrev YV:=@List.take_of_length_le
abbrev YW:=@List.length_range
abbrev YX:=@decide_eq_true
abbrev YY:=@List.take_append_of_le_length
abbrev YZ:=@List.flatMap_append
abbrev Y0:=@Bool.true_and
abbrev Y1:=@decide_eq_true_eq
abbrev Y2:=@List.append_assoc
abbrev Y3:=@List.find?_range_eq_some
abbrev Y4:=@List.getElem?_replicate
abbrev Y5:=@Nat.le_of_eq
abbrev Y6:=@if_false
abbrev Y7:=@Bool.false_or
abbrev Y8:=@Bool.or_false
abbrev Y9:=@List.filter_cons_of_neg
abbrev Za:=@Nat.add_sub_cancel
abbrev Zb:=@List.getElem?_drop
abbrev Zc:=@List.takeWhile_cons_of_pos
abbrev Zd:=@List.find?_some
abbrev Ze:=@Bool.eq_iff_iff
abbrev Zf:=@Nat.zero_add
abbrev Zg:=@Array.getElem?_eq_getElem
abbrev Zh:=@Nat.not_lt_zero
abbrev Zi:=@or_false
abbrev Zj:=@List.getElem?_cons_succ
abbrev Zk:=@List.length_dropLast
abbrev Zl:=@List.filter_cons_of_pos
abbrev Zm:=@List.map_set
abbrev Zn:=@Nat.zero_mul
abbrev Zo:=@List.takeWhile_cons_of_neg
abbrev Zp:=@List.getElem?_range
abbrev Zq:=@List.getLast?_eq_getElem?
abbrev Zr:=@List.set_append_right
abbrev Zs:=@List.filterMap_append
abbrev Zt:=@List.cons_append
abbrev Zu:=@List.map_cons
abbrev Zv:=@Go.wp_loop_rounds
abbrev Zw:=@List.getLast?_eq_some_getLast
abbrev Zx:=@List.mem_of_mem_take
abbrev Zy:=@List.getLast?_concat
abbrev Zz:=@Bool.false_and
abbrev ZA:=@List.foldl_append
abbrev ZB:=@List.getElem?_cons_zero
abbrev ZC:=@Nat.le_mul_of_pos_right
abbrev ZD:=@Nat.succ_pos
abbrev ZE:=@List.filter_eq_nil_iff
abbrev ZF:=@Nat.mul_comm
abbrev ZG:=@List.set_cons_succ
abbrev ZH:=@List.getElem?_take
abbrev ZI:=@Classical.byContradiction
abbrev ZJ:=@List.nil_append
abbrev ZK:=@List.all_eq_false
abbrev ZL:=@List.any_eq_false
abbrev ZM:=@Nat.mul_le_mul_right
abbrev ZN:=@Nat.mul_one
abbrev ZO:=@List.any_cons
abbrev ZP:=@List.length_filterMap_le
abbrev ZQ:=@List.mem_map_of_mem
abbrev ZR:=@LawfulBEq.eq_of_beq
abbrev ZS:=@List.take_zero
abbrev ZT:=@Go.rounds_succ
abbrev ZU:=@Nat.le_succ
abbrev ZV:=@Bool.true_or
abbrev ZW:=@ByteArray.size_extract
abbrev ZX:=@beq_iff_eq
abbrev ZY:=@List.drop_eq_nil_of_le
abbrev ZZ:=@List.foldl_cons
abbrev Z0:=@Nat.le_antisymm
abbrev Z1:=@Nat.lt_irrefl
abbrev Z3:=@Bool.or_assoc
abbrev Z5:=@List.take_append_drop
abbrev Z6:=@List.contains_iff_mem
abbrev Z7:=@List.length_singleton
abbrev Z8:=@List.getElem_drop
abbrev Z9:=@List.filter_congr
abbrev Zaa:=@Int.le_refl
abbrev Zab:=@List.set_append_left
abbrev Zac:=@Nat.add_mul
abbrev Zad:=@Array.toList_setIfInBounds
abbrev Zae:=@List.dropLast_subset
abbrev Zaf:=@List.length_pos_iff
abbrev Zag:=@List.replicate_succ
abbrev Zah:=@Option.map_some
abbrev Zai:=@if_true
abbrev Zaj:=@Option.some.inj
abbrev Zak:=@List.find?_cons
abbrev Zal:=@Int.tmod_lt_of_pos
abbrev Zam:=@List.getElem_range
abbrev Zan:=@List.length_eq_zero_iff
abbrev Zao:=@Nat.lt_or_ge
abbrev Zap:=@List.take_add_one
abbrev Zaq:=@Go.World.drewN_drewN
abbrev Zar:=@Nat.mul_zero
abbrev Zas:=@Go.run_convert_bytes_back
abbrev Zat:=@List.map_map
abbrev Zau:=@List.pairwise_lt_range
abbrev Zav:=@Array.getElem?_setIfInBounds_ne
abbrev Zaw:=@Array.toList_inj
abbrev Zax:=@List.flatMap_def
abbrev Zay:=@List.find?_eq_some_iff_getElem
abbrev Zaz:=@Nat.two_pos
abbrev ZaA:=@Int.tmod_nonneg
abbrev ZaB:=@List.dropLast_concat_getLast
abbrev ZaC:=@Int.toNat_of_nonneg
abbrev ZaD:=@Nat.mod_two_eq_zero_or_one
abbrev ZaE:=@List.take_take
abbrev ZaF:=@Go.World.grownBy.refl
abbrev ZaG:=@List.set_cons_zero
abbrev ZaH:=@List.mem_filterMap
abbrev ZaI:=@Go.Calls.quiet_of
abbrev ZaJ:=@List.drop_zero
abbrev ZaK:=@List.filter_filter
abbrev ZaL:=@Bool.true_eq_false
abbrev ZaM:=@Option.toList_some
abbrev ZaN:=@List.pairwise_iff_getElem
abbrev ZaO:=@Option.some.injEq
abbrev ZaP:=@Bool.not_eq_true'
abbrev ZaQ:=@List.take_set
abbrev ZaR:=@Nat.pos_of_mul_pos_right
abbrev ZaS:=@List.mem_flatMap
abbrev ZaT:=@List.ext_getElem
abbrev ZaU:=@Option.getD_some
abbrev ZaV:=@Nat.pos_of_mul_pos_left
abbrev ZaW:=@List.drop_length
abbrev ZaX:=@List.getLast?_cons_cons
abbrev ZaY:=@List.countP_cons
abbrev ZaZ:=@Nat.div_eq_of_lt
abbrev Za0:=@List.countP_cons_of_pos
abbrev Za1:=@List.map_nil
abbrev Za2:=@Bool.or_true
abbrev Za3:=@Int.natCast_add
abbrev Za4:=@beq_false_of_ne
abbrev Za5:=@Nat.mul_add_div
abbrev Za6:=@List.any_append
abbrev Za7:=@Go.run_underlying
abbrev Za8:=@Bool.and_assoc
abbrev Za9:=@Go.run_build
abbrev Zba:=@List.map_take
abbrev Zbb:=@Nat.add_assoc
abbrev Zbc:=@ByteArray.ext
abbrev Zbd:=@Bool.and_comm
abbrev Fs:=List (ByteArray×ByteArray)
structure aa(S:Xu)(w w':World):Prop where
 os:w'.os=w.os
 tape:w'.tape=w.tape
 output:w'.output=w.output
 size:w.heap.size<=w'.heap.size
 block:∀k,k<w.heap.size->k∉S->w'.heap[k]?=w.heap[k]?
theorem aa.refl(S:Xu)(w:World):aa S w w:=⟨rfl,rfl,rfl,Xy _,fun _ _ _=>rfl⟩
theorem aa.trans{c:World}(h:aa x w S)(k:aa x S c):aa x w c :=
 ⟨k.os.trans h.os,k.tape.trans h.tape,k.output.trans h.output,XF h.size k.size,
  fun i a b=>(k.block i (XB a h.size) b).trans (h.block i a b)⟩
theorem aa.mono{S':Xu}(h:aa x w S)(b:∀k,k∈x->k<w.heap.size->k∈S'):aa S' w S :=
 ⟨h.os,h.tape,h.output,h.size,fun k a d=>h.block k a (fun c=>d (b k c a))⟩
theorem aa.drew(h:aa x w S):aa x w S.drew:=⟨h.os,h.tape,h.output,h.size,h.block⟩
theorem aa.drewN(h:aa x w S)(n:Nat):aa x w (S.drewN n):=⟨h.os,h.tape,h.output,h.size,h.block⟩
theorem aa.alloc(h:aa x w S)(o:Obj):aa x w (S.alloc o) :=
 h.trans ⟨rfl,rfl,rfl,by simp,fun k a _=>Below.heap_alloc _ _ _ a⟩
theorem aa.setCell(h:aa x w S){p:Addr}(a:p.block∈x∨w.heap.size<=p.block)(u:Value):aa x w (S.setCell p u) :=
 ⟨h.os,h.tape,h.output,by have:=h.size;simp[World.setCell];omega,fun k c b=>by
  rw[XN _ _ _ _ (by rintro rfl;exact a.elim b (fun a=>by omega))];exact h.block k c b⟩
theorem aa.below(h:aa [] w S):Below w.heap.size w S :=
 ⟨h.os,h.tape,h.output,h.size,fun k a=>h.block k a (by simp)⟩
theorem ab(h:w.heap[l]?=some (.cells g f))(i:Nat):w.cell? ⟨l,i,none⟩=g[i]?:=by
 unfold World.cell?;simp[h]
theorem zcW(h:w.heap[l]?=some (.cells g f))(i:Nat):w.frozen? ⟨l,i,none⟩=false:=by
 unfold World.frozen?;simp[h]
theorem ae(h:w.heap[l]?=some (.cells g f))(i:Nat)(u:Value) :
  (w.setCell ⟨l,i,none⟩ u).heap[l]?=some (.cells (g.setIfInBounds i u) f):=by
 simp[World.setCell,Array.getElem?_modify,h]
theorem ah(h:w.heap[l]?=some y2):l<w.heap.size:=by
 rcases Zao l w.heap.size with a | a
 ·exact a
 ·rw[Array.getElem?_eq_none a]at h;simp at h
theorem E3{b:FuncId}(h:Calls m b g (w.drewN (l+f)) fun e a=>e=returned i/\a=w.drewN (l+f)) :
  Calls m b g (w.drewN (l+f)) fun e a=>e=returned i/\∃n,a=w.drewN (l+n) :=
 h.mono fun _ _ c=>⟨c.1,f,c.2⟩
theorem aH{b:Bool}(h:z2=b):Ending.returned (bool z2)=returned (bool b):=by rw[h]
theorem au{k:IntKind}{b:Int}(h:zf=b):Ending.returned (int k zf)=returned (int k b):=by rw[h]
theorem tT(h:D.toList=v.toList):D=v:=by
 rw[YK,YK]at h;cases D;cases v
 simp only[Array.toList_inj]at h;rw[h]
theorem ly(h:(D.toList==v.toList)=true):D=v:=tT (by simpa using h)
theorem tK(h:D=v):(D.toList==v.toList)=true:=by rw[h];simp
theorem PT(h:D≠v):(D.toList==v.toList)=false:=by
 cases e:(D.toList==v.toList)
 ·rfl
 ·exact absurd (ly e) h
theorem uY(h:w.heap[l]?=some (.cells #[i,L] f)):w.cell? ⟨l,0,none⟩=some i/\w.cell? ⟨l,1,none⟩=some L :=
 ⟨ab h _,ab h _⟩
theorem zT(h:w.heap[l]?=some (.cells #[i,L,M] f)):w.cell? ⟨l,0,none⟩=some i/\w.cell? ⟨l,1,none⟩=some L/\w.cell? ⟨l,2,none⟩=some M :=
 ⟨ab h _,ab h _,ab h _⟩
theorem zU(h:w.heap[l]?=some (.cells #[i,L,M,z0] f)):w.cell? ⟨l,0,none⟩=some i/\w.cell? ⟨l,1,none⟩=some L/\w.cell? ⟨l,2,none⟩=some M/\w.cell? ⟨l,3,none⟩=some z0 :=
 ⟨ab h _,ab h _,ab h _,ab h _⟩
theorem nJ(h:w.heap[l]?=some (.cells #[i,L,M,z0,z3] f)):w.cell? ⟨l,0,none⟩=some i/\w.cell? ⟨l,1,none⟩=some L/\w.cell? ⟨l,2,none⟩=some M/\w.cell? ⟨l,3,none⟩=some z0/\w.cell? ⟨l,4,none⟩=some z3 :=
 ⟨ab h _,ab h _,ab h _,ab h _,ab h _⟩
theorem NP(h:w.heap[l]?=some (.cells #[i,L,M,z0,z3,z8] f)):w.cell? ⟨l,0,none⟩=some i/\w.cell? ⟨l,1,none⟩=some L/\w.cell? ⟨l,2,none⟩=some M/\w.cell? ⟨l,3,none⟩=some z0/\w.cell? ⟨l,4,none⟩=some z3/\w.cell? ⟨l,5,none⟩=some z8 :=
 ⟨ab h _,ab h _,ab h _,ab h _,ab h _,ab h _⟩
theorem yY{a b:Value}(h:w.heap[l]?=some (.cells #[i,L,M,z0,z3,z8,a,b] f)):w.cell? ⟨l,0,none⟩=some i/\w.cell? ⟨l,1,none⟩=some L/\w.cell? ⟨l,2,none⟩=some M/\w.cell? ⟨l,3,none⟩=some z0/\w.cell? ⟨l,4,none⟩=some z3/\w.cell? ⟨l,5,none⟩=some z8/\w.cell? ⟨l,6,none⟩=some a/\w.cell? ⟨l,7,none⟩=some b :=
 ⟨ab h _,ab h _,ab h _,ab h _,ab h _,ab h _,ab h _,ab h _⟩
theorem dC(h:w.alloc (.cells g l)=S):S.heap[w.heap.size]?=some (.cells g l):=by
 rw[<-h];exact XD _ _
theorem dx(h:w.alloc (.cells g l)=S):aa [] w S:=by
 rw[<-h];exact(aa.refl [] _).alloc _
theorem bH:aa [] w w:=aa.refl [] w
theorem aa.sl1(h:aa (l :: x) w S)(v:Value):aa (l :: x) w (S.setCell ⟨l,f,none⟩ v):=h.setCell (XQ (by simp)) v
theorem aa.sr1(h:aa x w S)(a:w.heap.size<=l)(v:Value):aa x w (S.setCell ⟨l,f,none⟩ v):=h.setCell (XK a) v
theorem kn:(a<H/\(a:Int)<(H:Int))∨(¬a<H/\¬(a:Int)<(H:Int)):=by omega
theorem aP{α:Type}(e:α):∃x,Xq (e=x):=⟨_,rfl⟩
theorem cm{p:Prop}(h:p):Xq p:=h
def dD(n:Int):Bool:=n==32||n==9||n==10||n==12||n==13
def gG(n:Int):Bool:=decide (33<=n)&&decide (n<=126)
theorem lR :
  Calls prog 225 #[int u8 z7] T fun e a=>e=returned (bool (dD z7))/\a=T:=by
 go_enter func225,ntmps225;go_wp2
 all_goals go_ret
 all_goals (refine⟨?_,rfl⟩;simp[dD, *])
theorem rX :
  Calls prog 228 #[int u8 z7] T fun e a=>e=returned (bool (gG z7))/\a=T:=by
 go_enter func228,ntmps228;go_wp2
 all_goals go_ret
 all_goals (refine⟨?_,rfl⟩;first | (simp[gG, *];done) | (simp[gG];omega))
def aL(d:Xr)(k:Nat):Int:=if h:k<d.size then((d[k]'h).toNat:Int) else 0
theorem cw(h:H<b.size):aL b H=((b[H]'h).toNat:Int):=by unfold aL;rw[dif_pos h]
def bb(d:Xr):Nat->Int
 | 0=>1
 | k+1=>if aL d k==10 then bb d k+1 else bb d k
def bN(d:Xr):Nat->Int
 | 0=>1
 | k+1=>if aL d k==10 then 1 else bN d k+1
theorem EH(k:Nat):1<=bb b k/\bb b k<=k+1:=by
 induction k with
 | zero=>simp[bb]
 | succ k a=>simp only[bb];split <;> omega
theorem Ef(k:Nat):1<=bN b k/\bN b k<=k+1:=by
 induction k with
 | zero=>simp[bN]
 | succ k a=>simp only[bN];split <;> omega
def oR(n d:Xr)(k:Nat):Array Value:=#[string n,string d,int i64 k,int i64 (bb d k),int i64 (bN d k)]
def cM(w:World)(b:Nat)(n d:Xr)(k:Nat):Prop:=w.heap[b]?=some (.cells (oR n d k) 300)
theorem cM.cells(h:cM w l D v f) :
  w.cell? ⟨l,0,none⟩=some (string D)/\w.cell? ⟨l,1,none⟩=some (string v)/\w.cell? ⟨l,2,none⟩=some (int i64 f) /\
  w.cell? ⟨l,3,none⟩=some (int i64 (bb v f))/\w.cell? ⟨l,4,none⟩=some (int i64 (bN v f)):=by
 refine⟨?_,?_,?_,?_,?_⟩ <;> (rw[ab h];rfl)
theorem cM.Zbw(h:cM w l D v f)(b:aa x w S)(a:l∉x):cM S l D v f :=
 (b.block l (ah h) a).trans h
theorem aa.get(b:aa x w S)(h:w.heap[l]?=some y2)(a:l∉x):S.heap[l]?=some y2 :=
 (b.block l (ah h) a).trans h
theorem Fe(h:cM w l D v f)(d:f<v.size)(c:((v[f].toNat:Int)==10)=true)(m:Nat) :
  cM (((((w.drewN m).setCell ⟨l,3,none⟩ (int i64 (bb v f+1))).setCell ⟨l,4,none⟩ (int i64 0)).setCell ⟨l,4,none⟩ (int i64 1)).setCell ⟨l,2,none⟩ (int i64 ((f:Int)+1))) l D v (f+1):=by
 have a:(w.drewN m).heap[l]?=some (.cells (oR D v f) 300):=h;have b:=ae (ae (ae (ae a 3 (int i64 (bb v f+1))) 4 (int i64 0)) 4 (int i64 1)) 2 (int i64 ((f:Int)+1));unfold cM;rw[b];simp[oR,bb,bN,cw v f d,c]
theorem zd(h:cM w l D v f)(d:f<v.size)(c:((v[f].toNat:Int)==10)=false)(m:Nat) :
  cM (((w.drewN m).setCell ⟨l,4,none⟩ (int i64 (bN v f+1))).setCell ⟨l,2,none⟩ (int i64 ((f:Int)+1))) l D v (f+1):=by
 have a:(w.drewN m).heap[l]?=some (.cells (oR D v f) 300):=h;have b:=ae (ae a 4 (int i64 (bN v f+1))) 2 (int i64 ((f:Int)+1));unfold cM;rw[b];simp[oR,bb,bN,cw v f d,c]
theorem IP(q:b.size<=1024)(a:y<b.size)(h:cM T I n b y) :
  Calls prog 226 #[pointer (some ⟨I,0,none⟩)] T fun e c=>e=returned (tuple #[])/\cM c I n b (y+1)/\aa [I] T c:=by
 obtain⟨g,i,j,k,l⟩:=h.cells;have m:=zcW h 2;have o:=zcW h 3;have p:=zcW h 4;have f:=EH b y;have d:=Ef b y;go_enter func226,ntmps226;go_wp2;go_quiet (fail);go_wp2;go_quiet (fail);go_wp2
 all_goals go_end0
 all_goals refine⟨rfl,?_,?_⟩
 ·exact Fe h a (by assumption) _
 ·exact((((((aa.refl _ _).drewN _).sl1 _).sl1 _).sl1 _).sl1 _)
 ·exact zd h a (by assumption) _
 ·exact((((aa.refl _ _).drewN _).sl1 _).sl1 _)
theorem Dh(h:cM T I n b y) :
  Calls prog 227 #[pointer (some ⟨I,0,none⟩)] T fun e a=>e=returned (agg #[string n,int i64 (bb b y),int i64 (bN b y)])/\aa [] T a:=by
 obtain⟨c,d,f,g,i⟩:=h.cells;have j:=ah h;go_enter func227,ntmps227;go_wp2;go_region
 all_goals go_wp2
 exact XG (v:=agg #[string n,int i64 (bb b y),int i64 (bN b y)]) (by simp[results,results227,go_sem]) rfl ⟨rfl,((aa.refl _ _).alloc _).drew⟩
def tJ(d:Xr):Nat->Nat->Nat
 | 0,k=>k
 | f+1,k=>if k<d.size/\dD (aL d k)=true then tJ d f (k+1) else k
def skip(d:Xr)(k:Nat):Nat:=tJ d (d.size-k) k
def tN(d:Xr):Nat->Nat->Nat
 | 0,k=>k
 | f+1,k=>if k<d.size/\dD (aL d k)=false/\gG (aL d k)=true then tN d f (k+1) else k
def dw(d:Xr)(k:Nat):Nat:=tN d (d.size-k) k
theorem M5(h:H<b.size)(a:dD (aL b H)=true):skip b H=skip b (H+1):=by
 unfold skip;rw[show b.size-H=(b.size-(H+1))+1 by omega];rw[tJ,XA ⟨h,a⟩]
theorem wV(h:¬(H<b.size/\dD (aL b H)=true)):skip b H=H:=by
 unfold skip;cases b.size-H with
 | zero=>rfl
 | succ f=>rw[tJ,Xz h]
theorem Nm(h:H<b.size)(a:dD (aL b H)=false)(c:gG (aL b H)=true):dw b H=dw b (H+1):=by
 unfold dw;rw[show b.size-H=(b.size-(H+1))+1 by omega];rw[tN,XA ⟨h,a,c⟩]
theorem BE(h:¬(H<b.size/\dD (aL b H)=false/\gG (aL b H)=true)):dw b H=H:=by
 unfold dw;cases b.size-H with
 | zero=>rfl
 | succ f=>rw[tN,Xz h]
theorem Dv(f k:Nat):k<=tJ b f k/\(k<=b.size->tJ b f k<=b.size):=by
 induction f generalizing k with
 | zero=>simp[tJ]
 | succ f a =>
  rw[tJ];split
  ·have:=a (k+1);omega
  ·omega
theorem DL(f k:Nat):k<=tN b f k/\(k<=b.size->tN b f k<=b.size):=by
 induction f generalizing k with
 | zero=>simp[tN]
 | succ f a =>
  rw[tN];split
  ·have:=a (k+1);omega
  ·omega
theorem Ff(h:H<=b.size):H<=skip b H/\skip b H<=b.size:=⟨(Dv b _ H).1,(Dv b _ H).2 h⟩
theorem vJ(h:H<=b.size):H<=dw b H/\dw b H<=b.size:=⟨(DL b _ H).1,(DL b _ H).2 h⟩
structure vN where
 text:Xr
 ZbG:Int
 ZbC:Bool
 pos:Nat
def gJ(n d:Xr)(i:vN):Value:=agg #[string i.text,int i64 i.ZbG,bool i.ZbC,string n,int i64 (bb d i.pos),int i64 (bN d i.pos)]
def bQ(d:Xr)(k:Nat):vN×Nat :=
 let a:=skip d k
 let z:=dw d a
 if z<d.size/\dD (aL d z)=false then(⟨⟨#[]⟩,1,false,z⟩,z)
 else if z<=a then(⟨⟨#[]⟩,0,true,a⟩,z)
 else(⟨d.extract a z,0,false,a⟩,z)
theorem ID(c:a=skip d y)(g:dw d H=dw d a)(i:H<d.size)(b:dD (aL d H)=false)(f:gG (aL d H)=false) :
  bQ d y=(⟨⟨#[]⟩,1,false,H⟩,H):=by
 have e:dw d (skip d y)=H:=by rw[<-c,<-g];exact BE d H (fun h=>by simp[f]at h)
 simp only[bQ,e];rw[XA ⟨i,b⟩]
theorem IE(b:a=skip d y)(f:dw d H=dw d a)(c:¬(H<d.size/\dD (aL d H)=false))(g:H<=a) :
  bQ d y=(⟨⟨#[]⟩,0,true,a⟩,H):=by
 have e:dw d (skip d y)=H:=by rw[<-b,<-f];exact BE d H (fun h=>c ⟨h.1,h.2.1⟩)
 simp only[bQ,e];rw[Xz c,<-b,XA g]
theorem Ds(b:a=skip d y)(f:dw d H=dw d a)(c:¬(H<d.size/\dD (aL d H)=false))(g:a<H) :
  bQ d y=(⟨d.extract a H,0,false,a⟩,H):=by
 have e:dw d (skip d y)=H:=by rw[<-b,<-f];exact BE d H (fun h=>c ⟨h.1,h.2.1⟩)
 simp only[bQ,e];rw[Xz c,<-b,Xz (by omega)]
theorem Qh :
  (∃h:H<b.size,dD ((b[H]'h).toNat:Int)=false/\gG ((b[H]'h).toNat:Int)=true/\dw b (H+1)=dw b H) ∨
  (∃h:H<b.size,dD ((b[H]'h).toNat:Int)=false/\gG ((b[H]'h).toNat:Int)=false) ∨
  (∃h:H<b.size,dD ((b[H]'h).toNat:Int)=true)∨(¬H<b.size/\decide ((H:Int)<(b.size:Int))=false):=by
 by_cases h:H<b.size
 ·have e:=cw b H h;cases a:dD (aL b H) with
  | true=>exact XK (XK (XQ ⟨h,e ▸ a⟩))
  | false =>
   cases c:gG (aL b H) with
   | true=>exact XQ ⟨h,e ▸ a,e ▸ c,(Nm b H h a c).symm⟩
   | false=>exact XK (XQ ⟨h,e ▸ a,e ▸ c⟩)
 ·exact XK (XK (XK ⟨h,by simp;omega⟩))
def mg(n:Int):Bool:=decide (33<=n)&&decide (n<=126) && !(n==36)
def ip(s:Xr):Bool:=decide (1<=s.size)&&decide (s.size<=8)&&(List.range s.size).all (fun i=>mg (aL s i))
def dE(n d:Xr):Int:=if ip n=false then 2 else if 1024<d.size then 3 else 0
theorem oE(h:b.size<1∨8<b.size):ip b=false:=by
  unfold ip;rcases h with h | h
  · simp[show ¬1<=b.size by omega]
  · simp[show ¬b.size<=8 by omega]
theorem J9(h:H<b.size)(a:mg (aL b H)=false):ip b=false:=by
  unfold ip;have:(List.range b.size).all (fun H=>mg (aL b H))=false:=by
    rw[ZK];exact⟨H,by simp[h],by simp[a]⟩
  simp[this]
theorem GQ(a:1<=b.size)(c:b.size<=8)(h:∀i,i<b.size->mg (aL b i)=true):ip b=true:=by
  unfold ip;have:(List.range b.size).all (fun i=>mg (aL b i))=true:=by
    rw[YP];intro i d;exact h i (by simpa using d)
  simp[this,a,c]
theorem Aw(s:b.size<=1073741824) :
    Calls prog 76 #[string b] T fun e p=>e=returned (bool (ip b))/\p=T:=by
  by_cases l:1<=b.size
  · by_cases m:b.size<=8
    · go_enter func76,ntmps76
      go_wp2
      go_loopg [3] b.size (fun g i wr=>∃k:Nat,k<=b.size/\g=b.size-k/\i=int i64 k/\Xq (∀i,i<k->mg (aL b i)=true)/\wr=T)
      · exact⟨0,by omega,by omega,rfl,fun i h=>by omega,rfl⟩
      obtain⟨k,r,q,rfl,a,rfl⟩:=hrel;by_cases d:k<b.size
      · have j:∀c:Bool,mg (b[k].toNat:Int)=c->mg (aL b k)=c:=fun c h=>by rw[cw b k d];exact h
        have f:Xq (∀c:Bool,mg (b[k].toNat:Int)=c->mg (aL b k)=c):=j;clear j;go_wp2
        all_goals first
          | (go_ret;refine⟨aH ?_,rfl⟩;rw[J9 b k d (f.o false ?_)];first | (simp[mg];omega) | (simp[mg];simp at *;omega))
          | (go_roundg (b.size-(k+1))
             case measure=>omega
             case rel =>
               refine⟨k+1,by omega,rfl,by go_num,?_,rfl⟩;intro i n;by_cases e:i=k
               · subst e;exact f.o true (by simp[mg];simp at *;omega)
               · exact a.o i (by omega))
      · go_wp2
        go_ret;exact⟨aH (GQ b l m (fun i n=>a.o i (by omega))).symm,rfl⟩
    · go_enter func76,ntmps76
      go_wp2
      all_goals go_ret
      all_goals exact⟨aH (oE b (XK (by omega))).symm,rfl⟩
  · go_enter func76,ntmps76
    go_wp2
    all_goals go_ret
    all_goals exact⟨aH (oE b (XQ (by omega))).symm,rfl⟩
theorem qz(c:n.size<=1073741824)(i:b.size<=4294967296) :
    Calls prog 48 #[string n,string b] T fun e f=>e=returned (int i64 (dE n b))/\f=T:=by
  cases a:ip n
  · go_enter func48,ntmps48
    go_wp2_with fail;refine(Aw n _ c).mono ?_;rintro e g ⟨rfl,rfl⟩;go_wp2;go_ret;exact⟨au (by simp[dE,a]),rfl⟩
  · by_cases d:1024<b.size
    all_goals
      go_enter func48,ntmps48;go_wp2_with fail;refine(Aw n _ c).mono ?_;rintro e g ⟨rfl,rfl⟩;go_wp2;go_ret;exact⟨au (by simp[dE,a,d]),rfl⟩
def aI(fs:Fs)(i:Nat):Xr:=(fs.getD i (⟨#[]⟩,⟨#[]⟩)).1
def ak(fs:Fs)(i:Nat):Xr:=(fs.getD i (⟨#[]⟩,⟨#[]⟩)).2
def rM(fs:Fs):List Value :=
  [string (aI fs 0),string (ak fs 0),string (aI fs 1),string (ak fs 1),string (aI fs 2),string (ak fs 2),string (aI fs 3),string (ak fs 3),int i64 fs.length]
def bO(w:World)(v t:Nat)(fs:Fs)(more:List Value):Prop:=w.heap[v]?=some (.cells (rM fs++more).toArray t)/\fs.length<=4
theorem bO.name{a:Fs}(h:bO w l f a N)(i:Nat)(b:i<4) :
    w.cell? ⟨l,i*2,none⟩=some (string (aI a i))/\w.cell? ⟨l,i*2+1,none⟩=some (string (ak a i)):=by
  constructor <;> rw[ab h.1]
  all_goals
    match i,b with
    | 0,_=>rfl
    | 1,_=>rfl
    | 2,_=>rfl
    | 3,_=>rfl
theorem bO.count{a:Fs}(h:bO w l f a N) :
    w.cell? ⟨l,8,none⟩=some (int i64 a.length):=by
  rw[ab h.1];rfl
def ee(n:Xr):Fs->Nat->Int
  | [],_=>-1
  | f :: r,i=>if(f.1.toList==n.toList)=true then i else ee n r (i+1)
def bV(fs:Fs)(n:Xr):Int:=ee n fs 0
theorem Mj{α:Type}(l:List α)(k:Nat)(h:k<l.length):l.drop k=l[k] :: l.drop (k+1):=X0 h
theorem CR(a:Fs)(k:Nat)(h:k<a.length):aI a k=a[k].1:=by
  unfold aI;rw[Xw,Xv h];rfl
theorem Gv(a:Fs)(n:Xr)(k:Nat)(h:k<a.length)(c:bV a n=ee n (a.drop k) k)(b:((aI a k).toList==n.toList)=true):bV a n=k:=by
  rw[c,Mj _ _ h,ee,<-CR a k h,XA b]
theorem CT(a:Fs)(n:Xr)(k:Nat)(h:k<a.length)(c:bV a n=ee n (a.drop k) k)(b:((aI a k).toList==n.toList)=false):bV a n=ee n (a.drop (k+1)) (k+1):=by
  rw[c,Mj _ _ h,ee,<-CR a k h,Xz (by simp[b])]
theorem CU(a:Fs)(n:Xr)(k:Nat)(h:¬k<a.length)(b:bV a n=ee n (a.drop k) k):bV a n=-1:=by
  rw[b,YQ (by omega),ee]
theorem nK(c:Fs)(j:List Value)(n:Xr)(w:World)(h:bO w a H c j) :
    Calls prog 49 #[pointer (some ⟨a,0,none⟩),string n] w fun e q=>e=returned (int i64 (bV c n))/\q=w:=by
  have m:=h.count;have p:=h.2;go_enter func49,ntmps49;go_wp2
  go_loopg [5] c.length (fun g i wr=>∃k:Nat,k<=c.length/\g=c.length-k/\i=int i64 k/\Xq (bV c n=ee n (c.drop k) k)/\wr=w)
  · exact⟨0,by omega,by omega,rfl,rfl,rfl⟩
  obtain⟨k,s,r,rfl,b,rfl⟩:=hrel;by_cases d:k<c.length
  · obtain⟨t,u⟩:=h.name k (by omega)
    cases l:((aI c k).toList==n.toList)
    · have f:Xq (bV c n=ee n (c.drop (k+1)) (k+1)):=CT c n k d b.o l
      clear b;go_wp2;go_roundg (c.length-(k+1))
      · exact⟨k+1,by omega,rfl,by go_num,f,rfl⟩
      omega
    · have f:Xq (bV c n=k):=Gv c n k d b.o l
      clear b;go_wp2;go_ret;exact⟨au f.o.symm,rfl⟩
  · have f:Xq (bV c n=-1):=CU c n k d b.o
    clear b;go_wp2;go_ret;exact⟨au f.o.symm,rfl⟩
theorem bO.free{a:Fs}(h:bO w l f a N)(i:Nat):w.frozen? ⟨l,i,none⟩=false:=zcW h.1 i
theorem bO.Zbw{a:Fs}(h:bO w l f a N)(b:aa x w S)(c:l∉x):bO S l f a N :=
 ⟨b.get h.1 c,h.2⟩
theorem bO.lt{a:Fs}(h:bO w l f a N):l<w.heap.size:=ah h.1
theorem Rm(b:Fs)(c:List Value)(w:World)(h:bO w y a b c)(j:H<b.length) :
  Calls prog 153 #[pointer (some ⟨y,0,none⟩),int i64 H] w fun e i=>e=returned (agg #[string (aI b H),string (ak b H)])/\aa [] w i:=by
 have d:=h.count;have f:=h.2;have g:=h.lt;obtain⟨k,l⟩:=h.name H (by omega);go_enter func153,ntmps153;go_wp2;exact XG (v:=agg #[string (aI b H),string (ak b H)]) (by simp[results,results153,go_sem]) rfl ⟨rfl,(aa.refl _ _).alloc _⟩
theorem Wz(f:Fs)(e:List Value)(n d:Xr)(h:f.length<4) :
  (((rM f++e).set (f.length*2) (string n)).set (f.length*2+1) (string d)).set 8 (int i64 ((f.length:Int)+1))=rM (f++[(n,d)])++e:=by
 match f,h with
 | [],_=>rfl
 | [a],_=>rfl
 | [a,b],_=>rfl
 | [a,b,c],_=>rfl
theorem WA(g:Fs)(f:List Value)(n d:Xr)(k:Nat)(i:k<g.length)(h:g.length<=4) :
  ((rM g++f).set (k*2) (string n)).set (k*2+1) (string d)=rM (g.set k (n,d))++f:=by
 match g,h,k,i with
 | [a],_,0,_=>rfl
 | [a,b],_,0,_=>rfl
 | [a,b],_,1,_=>rfl
 | [a,b,c],_,0,_=>rfl
 | [a,b,c],_,1,_=>rfl
 | [a,b,c],_,2,_=>rfl
 | [a,b,c,e],_,0,_=>rfl
 | [a,b,c,e],_,1,_=>rfl
 | [a,b,c,e],_,2,_=>rfl
 | [a,b,c,e],_,3,_=>rfl
theorem bO.added{a:Fs}(h:bO w l f a N)(n d:Xr)(c:a.length<4) :
  bO (((w.setCell ⟨l,a.length*2,none⟩ (string n)).setCell ⟨l,a.length*2+1,none⟩ (string d)).setCell ⟨l,8,none⟩ (int i64 ((a.length:Int)+1))) l f (a++[(n,d)]) N:=by
 have b:=ae (ae (ae h.1 (a.length*2) (string n)) (a.length*2+1) (string d)) 8 (int i64 ((a.length:Int)+1));refine⟨?_,by simp;omega⟩;rw[b];simp only[List.setIfInBounds_toArray,Wz a N n d c]
theorem bO.turned{a:Fs}(h:bO w l f a N)(n d:Xr)(k:Nat)(c:k<a.length) :
  bO ((w.setCell ⟨l,k*2,none⟩ (string n)).setCell ⟨l,k*2+1,none⟩ (string d)) l f (a.set k (n,d)) N:=by
 have b:=ae (ae h.1 (k*2) (string n)) (k*2+1) (string d);refine⟨?_,by simpa using h.2⟩;rw[b];simp only[List.setIfInBounds_toArray,WA a N n d k c h.2]
theorem Ma(c:Fs)(a:List Value)(w:World)(h:bO w I y c a)(i:c.length<4) :
  Calls prog 50 #[pointer (some ⟨I,0,none⟩),agg #[string n,string b]] w fun e f=>e=returned (tuple #[])/\bO f I y (c++[(n,b)]) a/\aa [I] w f:=by
 have d:=h.count;have g:=h.free;have j:=h.lt;obtain⟨k,l⟩:=h.name c.length (by omega);go_enter func50,ntmps50;go_wp2;go_region
 all_goals go_wp2
 all_goals go_end0
 exact⟨rfl,(h.added n b i).Zbw (bH.alloc _ |>.drew) (by simp),((((aa.refl _ _).sl1 _).sl1 _).sl1 _).alloc _ |>.drew⟩
def fY(fs:Fs)(n d:Xr):Int×Fs :=
 if dE n d≠0 then(dE n d,fs)
 else if 0<=bV fs n then(0,fs.set (bV fs n).toNat (n,d))
 else if 4<=fs.length then(1,fs) else(0,fs++[(n,d)])
theorem Gs(a:Fs)(i:Nat):ee b a i=-1∨((i:Int)<=ee b a i/\ee b a i<i+a.length):=by
 induction a generalizing i with
 | nil=>exact XQ rfl
 | cons f r c =>
  rw[ee];split
  ·exact XK ⟨by omega,by simp;omega⟩
  ·rcases c (i+1) with h | h
   ·exact XQ h
   ·exact XK ⟨by omega,by simp;omega⟩
theorem sP(a:Fs):bV a b=-1∨∃k:Nat,k<a.length/\bV a b=k:=by
 rcases Gs b a 0 with h | h
 ·exact XQ h
 ·refine XK ⟨(bV a b).toNat,?_,?_⟩ <;> (unfold bV;omega)
theorem MW(a:Fs)(c:List Value)(w:World)(h:bO w I y a c)(p:n.size<=1073741824)(m:b.size<=4294967296) :
  Calls prog 31 #[pointer (some ⟨I,0,none⟩),string n,string b] w fun e u=>e=returned (int i64 (fY a n b).1)/\bO u I y (fY a n b).2 c/\aa [I] w u:=by
 have r:=h.count;have B:=h.lt;have t:=h.2;by_cases d:dE n b=0
 ·rcases sP n a with i | ⟨k,A,i⟩
  ·by_cases s:4<=a.length
   ·have g:Xq (fY a n b=(1,a)):=(by show fY a n b=_;simp[fY,d,i,s]);have l:Xq (dE n b=0):=d;have f:Xq (bV a n=-1):=i;clear d i;go_enter func31,ntmps31;go_wp2_with fail;refine(qz n b _ p m).mono ?_;rintro e j ⟨rfl,rfl⟩;rw[l.o];go_wp2_with fail;refine(nK I y a c n _ (by exact h.Zbw (bH.alloc _) (by simp))).mono ?_;rintro e j ⟨rfl,rfl⟩;rw[f.o];go_wp2;go_ret;exact⟨au (by rw[g.o]),by rw[g.o];exact h.Zbw (bH.alloc _) (by simp),(aa.refl _ _).alloc _⟩
   ·have g:Xq (fY a n b=(0,a++[(n,b)])):=(by show fY a n b=_;simp[fY,d,i,s]);have l:Xq (dE n b=0):=d;have f:Xq (bV a n=-1):=i;clear d i;go_enter func31,ntmps31;go_wp2_with fail;refine(qz n b _ p m).mono ?_;rintro e j ⟨rfl,rfl⟩;rw[l.o];go_wp2_with fail;refine(nK I y a c n _ (by exact h.Zbw (bH.alloc _) (by simp))).mono ?_;rintro e j ⟨rfl,rfl⟩;rw[f.o];go_wp2_with fail;refine(Ma I y n b a c _ (by exact h.Zbw (bH.alloc _) (by simp)) (by omega)).mono ?_;rintro e E ⟨rfl,v,q⟩;go_wp2;go_ret;exact⟨au (by rw[g.o]),by rw[g.o];exact v,((aa.refl _ _).alloc _).trans q⟩
  ·have g:Xq (fY a n b=(0,a.set k (n,b))):=(by show fY a n b=_;simp[fY,d,i]);have l:Xq (dE n b=0):=d;have f:Xq (bV a n=k):=i;obtain⟨C,D⟩:=h.name k (by omega);have z:=h.free;clear d i;go_enter func31,ntmps31;go_wp2_with fail;refine(qz n b _ p m).mono ?_;rintro e j ⟨rfl,rfl⟩;rw[l.o];go_wp2_with fail;refine(nK I y a c n _ (by exact h.Zbw (bH.alloc _) (by simp))).mono ?_;rintro e j ⟨rfl,rfl⟩;rw[f.o];go_wp2_with fail;go_region
   all_goals go_wp2
   all_goals go_ret
   exact⟨au (by rw[g.o]),by rw[g.o];exact(h.turned n b k A).Zbw (bH.alloc _ |>.drew) (by simp),(((aa.refl _ _).sl1 _).sl1 _).alloc _ |>.drew⟩
 ·have g:Xq (fY a n b=(dE n b,a)):=by show fY a n b=_;simp[fY,d]
  have x:(dE n b != 0)=true:=by simp[d]
  clear d;go_enter func31,ntmps31;go_wp2_with fail;refine(qz n b _ p m).mono ?_;rintro e j ⟨rfl,rfl⟩;go_wp2;go_ret;exact⟨au (by rw[g.o]),by rw[g.o];exact h,aa.refl _ _⟩
structure Hd where
 ao:Xt
 cap:Nat
def Hd.Zbx(h:Hd):Option Nat:=h.ao.map (·.block)
structure eD where
 e:TypeId
 size:Nat
 n:Nat
 xs:List Value
def aD(w:World)(h:Hd)(r:eD):Prop:=w.ownsRow 0 r.e r.size (slice h.ao r.n h.cap) r.n r.xs
theorem EY(h:Hd)(n:Nat):(slice h.ao n h.cap).ownBlock=h.Zbx:=by
 unfold Hd.Zbx;cases h.ao <;> rfl
theorem aD.lt{h:Hd}{r:eD}(o:aD w h r){k:Nat}(a:h.Zbx=some k):k<w.heap.size :=
 (World.ownsRow.lt (h:=o) k (by rw[EY];exact a)).2
theorem aD.Zbo{w':World}{h:Hd}{r:eD}(o:aD w h r)(n:∀k,h.Zbx=some k->w'.heap[k]?=w.heap[k]?):aD w' h r:=by
 refine⟨o.1,?_⟩;rcases o.2 with m | ⟨g,b,c,a,j,l,d,e,f,i⟩
 ·exact XQ m
 ·refine XK ⟨g,b,c,a,j,?_,d,e,f,i⟩;rw[n g (by unfold Hd.Zbx;injection a with a;rw[a];rfl)];exact l
theorem aD.Zbu{h:Hd}{r:eD}(o:aD w h r) :
  (h=⟨none,0⟩/\r.n=0/\r.xs=[])∨∃g a,h.ao=some ⟨g,0,none⟩/\w.heap[g]?=some (.cells a r.e)/\r.n<=h.cap/\h.cap<=maxLen/\a.size=h.cap*r.size/\a.toList.take (r.n*r.size)=r.xs:=by
 rcases o.2 with ⟨b,f⟩ | ⟨g,j,a,b,s,q,k,l,m,p⟩
 ·left
  injection b with c i d
  refine⟨by cases h;simp_all,f,XY (by rw[o.1,f];simp)⟩
 ·right
  injection b with c i d
  subst d;exact⟨g,a,c,q,k,l,m,p⟩
theorem bE:(⟨a,0,none⟩:Addr).add H=⟨a,H,none⟩:=by
 simp only[Addr.add];split
 ·next h=>subst h;rfl
 ·simp
theorem aD.cell{h:Hd}{r:eD}(o:aD w h r)(a:h.ao=some ⟨l,0,none⟩)(j:Nat)(u:Value)(b:r.xs[j]?=some u):w.cell? ⟨l,j,none⟩=some u:=by
 have:=o.cells (g:=l) (by rw[EY];unfold Hd.Zbx;rw[a];rfl) j u b;rw[bE]at this;exact this
theorem aR{y:List Oper}(Q:s.guard=none)(H x:Operand)(t:TypeId)(C:s.op=Op.call { callee:=Callee.builtin Builtin.append,args:=#[H,x],argTypes:=#[t,t] })(i:TypeInfo)(z:Value)(f:Nat)(h:Hd)(r:eD)(K:m.underlying t=some (.slice r.e))(L:m.info? r.e=some i)(h3:i.zero=some z)(M:i.size=r.size)(h5:i.bytes=f)(h6:z.cells.size=r.size)(h7:0<r.size)(S:z1.eval H=slice h.ao r.n h.cap)(o:aD T h r)(E:Addr)(p c:Nat)(d:List Value)(U:z1.eval x=slice (some E) p c)(R:d.length=p*r.size)(P:∀j u,d[j]?=some u->T.cell? (E.add j)=some u)(B:∀u∈d,u.oneCell'=true)(hm:0<p)(b1:r.n+p<=maxLen)(I:(r.n+p)*f<=140737488355328)(N:∀g a w,aD w ⟨some ⟨g,0,none⟩,a⟩ ⟨r.e,r.size,r.n+p,r.xs++d⟩->T.grownBy w h.Zbx->(h.Zbx=some g∨T.heap.size<=g)->wpList m zt y3 y (z1.put s.dst (slice (some ⟨g,0,none⟩) (r.n+p) a)) w) :
  wpList m zt y3 (s :: y) z1 T:=by
 rcases o.Zbu with ⟨v,A,J⟩ | ⟨g,F,v,A,J,e4,e5,e6⟩
 ·refine wpList_append_grows T Q H x t C r.e i z r.size f K L h3 M h5 h6 h7 none 0 0 [] (by rw[S,v,A]) (fun _=>⟨rfl,rfl⟩) (by simp) (by intro b O;cases O) E p c d U R P B (by omega) (by omega) (by rw[A]at I;exact I) ?_;intro v' w D l;rcases D.2 with ⟨_,q⟩ | ⟨g,a,F,V,W,X,Y,Z,q6,q7⟩
  ·omega
  ·have:=N g a w ⟨by have:=D.1;simpa [J,A] using this,XK ⟨g,a,F,by simp,XX _,X,by simpa [A] using Y,Z,q6,by simpa [A,J] using q7⟩⟩ (by rw[v];exact l) (XK W);rw[V];simpa [A] using this
 ·by_cases hf:r.n+p<=h.cap
  ·refine wpList_append_fits T Q H x t C 0 r.e i r.size K L M g r.n h.cap r.xs (by rw[S,v]) (by have:=o;unfold aD at this;rw[v]at this;exact this) E p c d U R P B hf ?_;intro w D l;exact N g h.cap w D (by unfold Hd.Zbx;rw[v];exact l) (XQ (by unfold Hd.Zbx;rw[v];rfl))
  ·refine wpList_append_grows T Q H x t C r.e i z r.size f K L h3 M h5 h6 h7 (some ⟨g,0,none⟩) r.n h.cap r.xs (by rw[S,v]) (by intro hh;cases hh) o.1 (by intro b O j u hj;cases O;rw[bE];exact o.cell v j u hj) E p c d U R P B (by omega) b1 I ?_;intro v' w D l;rcases D.2 with ⟨_,q⟩ | ⟨g',a,G,V,W,X,Y,Z,q6,q7⟩
   ·omega
   ·have:=N g' a w ⟨D.1,XK ⟨g',a,G,rfl,XX _,X,Y,Z,q6,q7⟩⟩ ⟨l.os,l.tape,l.output,l.size,fun k hk _=>l.block k hk (by simp)⟩ (XK W);rw[V];exact this
theorem Cp{P:Program}(p F G c:TypeId)(g f a:Nat)(h:Hd)(r:eD)(b:Array Value)(t:TypeId)(E:P.underlying p=some (.slice c))(q:(P.info? c).map (·.size)=some a)(C:r.size=a)(y:T.heap[g]?=some (.cells b t))(l:aD T h r)(D:b.size=r.n*a)(x:∀v∈r.xs,v.oneCell'=true) :
  (Builtin.copy_ #[p,F] G #[slice (some ⟨g,0,none⟩) r.n f,slice h.ao r.n h.cap]).run P T=.ok (goInt r.n) (T.setRow g r.xs.toArray):=by
 have B:r.xs.length=r.n*a:=by have:=l.1;rw[C]at this;exact this
 have d:=run_storeCells_at P g 0 t r.xs 0 b T y (by simp;omega) x;have s:(b.toList.take (0+0)++r.xs++b.toList.drop (0+0+r.xs.length))=r.xs:=by
  simp;omega
 rw[s]at d;have k:(Builtin.firstCells a r.n (slice h.ao r.n h.cap)).run P T=.ok r.xs.toArray T:=by
  rcases l.Zbu with ⟨e,H,u⟩ | ⟨w,o,e,_⟩
  ·rw[e,u];exact run_firstCells_none T _ _ _ _
  ·rw[e];exact run_firstCells_some T a r.n ⟨w,0,none⟩ r.n h.cap r.xs B (fun j v A=>by rw[bE];exact l.cell e j v A)
 cases m:P.info? c with
 | none=>simp[m]at q
 | some i =>
  have z:i.size=a:=by simpa [m] using q
  simp[Builtin.copy_,run_underlying E,Builtin.lenOf,sizeOf,typeInfo,m,z,k,d]
theorem yB(h:aa x w S)(a:l∈x∨w.heap.size<=l)(c:Array Value):aa x w (S.setRow l c) :=
 ⟨h.os,h.tape,h.output,by have:=h.size;simp[World.setRow];omega,fun k d b=>by
  rw[setRow_other S l k c (by rintro rfl;exact a.elim b (fun a=>by omega))];exact h.block k d b⟩
theorem tU{P:Program}(d j k:TypeId)(g b:Nat)(h:Hd)(r:eD)(a:Array Value)(t:TypeId)(p:P.underlying d=some (.slice r.e))(o:(P.info? r.e).map (·.size)=some r.size)(i:T.heap[g]?=some (.cells a t))(m:aD T h r)(f:a.size=r.n*r.size)(l:∀v∈r.xs,v.oneCell'=true) :
  ∃c,(Builtin.copy_ #[d,j] k #[slice (some ⟨g,0,none⟩) r.n b,slice h.ao r.n h.cap]).run P T=.ok (goInt r.n) c/\c.heap[g]?=some (.cells r.xs.toArray t)/\aa [g] T c/\c.heap.size=T.heap.size :=
 ⟨_,Cp (P:=P) T d j k r.e g b r.size h r a t p o rfl i m f l,setRow_heap T g _ _ t _ i,yB (aa.refl _ _) (XQ (by simp)) _,by simp[World.setRow]⟩
theorem aD.made{r:eD}(b:w.heap[l]?=some (.cells r.xs.toArray r.e))(a:r.xs.length=r.n*r.size)(c:r.n<=maxLen):aD w ⟨some ⟨l,0,none⟩,r.n⟩ r :=
 ⟨a,XK ⟨l,r.n,r.xs.toArray,rfl,XX _,b,Xy _,c,by simpa using a,by simp[<-a]⟩⟩
theorem tH{P:Program}(t C:TypeId)(i:TypeInfo)(z:Value)(d:Nat)(h:Hd)(r:eD)(F:P.underlying t=some (.slice r.e))(G:P.info? r.e=some i)(U:i.zero=some z)(H:i.size=r.size)(V:i.bytes=d)(W:z.cells.size=r.size)(X:0<r.size)(o:aD T h r)(x:Addr)(m c:Nat)(b:List Value)(J:b.length=m*r.size)(I:∀j u,b[j]?=some u->T.cell? (x.add j)=some u)(B:∀u∈b,u.oneCell'=true)(hm:0<m)(Y:r.n+m<=maxLen)(D:(r.n+m)*d<=140737488355328) :
  ∃g a s,(Builtin.append_ #[t,t] C #[slice h.ao r.n h.cap,slice (some x) m c]).run P T=.ok (slice (some ⟨g,0,none⟩) (r.n+m) a) s /\
   aD s ⟨some ⟨g,0,none⟩,a⟩ ⟨r.e,r.size,r.n+m,r.xs++b⟩/\T.grownBy s h.Zbx/\(h.Zbx=some g∨T.heap.size<=g):=by
 rcases o.Zbu with ⟨p,w,E⟩ | ⟨g,y,p,w,E,e4,e5,e6⟩
 ·obtain⟨v',s,l,v,f,_⟩:=run_append_own (P:=P) T T.heap.size t C r.e i z r.size d F G U H V W X (slice none 0 0) 0 [] (XE T _ r.e r.size) x m c b J I B (by omega) (by rw[w]at D;exact D) (Xy _);rcases v.2 with ⟨_,q⟩ | ⟨g,a,y,K,L,M,N,O,Q,R⟩
  ·omega
  ·refine⟨g,a,s,?_,⟨by have:=v.1;simpa [E,w] using this,XK ⟨g,a,y,by simp,XX _,M,by simpa [w] using N,O,Q,by simpa [w,E] using R⟩⟩,?_,XK L⟩
   ·rw[p,w,l,K]
   ·rw[p];exact f
 ·by_cases Z:r.n+m<=h.cap
  ·obtain⟨s,l,v,f⟩:=run_append_fits (P:=P) T 0 t C r.e i r.size F G H g r.n h.cap r.xs (by have:=o;unfold aD at this;rw[p]at this;exact this) x m c b J I B Z;exact⟨g,h.cap,s,by rw[p,l],v,by unfold Hd.Zbx;rw[p];exact f,XQ (by unfold Hd.Zbx;rw[p];rfl)⟩
  ·obtain⟨v',s,l,v,f⟩:=run_append_arg_grows (P:=P) T t C r.e i z r.size d F G U H V W X ⟨g,0,none⟩ r.n h.cap r.xs o.1 (by intro j u hj;rw[bE];exact o.cell p j u hj) x m c b J I (by omega) Y D;rcases v.2 with ⟨_,q⟩ | ⟨S,a,A,K,L,M,N,O,Q,R⟩
   ·omega
   ·exact⟨S,a,s,by rw[p,l,K],⟨v.1,XK ⟨S,a,A,rfl,XX _,M,N,O,Q,R⟩⟩,⟨f.os,f.tape,f.output,f.size,fun k hk _=>f.block k hk (by simp)⟩,XK L⟩
theorem bB{K:Act->World->Prop}{E:Prop}(N:s.guard=none)(y x:Operand)(t:TypeId)(v:s.op=Op.call { callee:=Callee.builtin Builtin.append,args:=#[y,x],argTypes:=#[t,t] })(i:TypeInfo)(z:Value)(b:Nat)(h:Hd)(r:eD)(C:m.underlying t=some (.slice r.e))(D:m.info? r.e=some i)(F:i.zero=some z)(G:i.size=r.size)(H:i.bytes=b)(I:z.cells.size=r.size)(J:0<r.size)(Q:z1.eval y=slice h.ao r.n h.cap)(k:aD w h r)(p:Addr)(f c:Nat)(a:List Value)(S:z1.eval x=slice (some p) f c)(P:a.length=f*r.size)(M:∀j u,a[j]?=some u->w.cell? (p.add j)=some u)(q:∀u∈a,u.oneCell'=true)(O:0<f)(A:r.n+f<=maxLen)(B:(r.n+f)*b<=140737488355328)(L:∀g d o,aD o ⟨some ⟨g,0,none⟩,d⟩ ⟨r.e,r.size,r.n+f,r.xs++a⟩->w.grownBy o h.Zbx->(h.Zbx=some g∨w.heap.size<=g)->K (z1.put s.dst (slice (some ⟨g,0,none⟩) (r.n+f) d)) o) :
  if Region.wanted s (yielded zt z1.tmps)=true then Oper.wp m s z1 w K y3 else E:=by
 have R:Region.wanted s (yielded zt z1.tmps)=true:=by simp[Region.wanted,N]
 rw[XA R];obtain⟨g,d,o,l,T,U,V⟩:=tH (P:=m) w t s.type i z b h r C D F G H I J k p f c a P M q O A B;unfold Oper.wp;simp[execOp,v,resolve,invoke,builtin,Q,S,l,Result.andThen];exact L g d o T U V
theorem bY{P:Program}(t e:TypeId)(i:TypeInfo)(z:Value)(f:P.underlying t=some (.slice e))(d:P.info? e=some i)(g:i.zero=some z)(n a:Nat)(b:i.size=a)(c:i.bytes*n<=281474976710656)(j:n<=1073741824) :
  (Instr.makeSlice t (int i64 n) (int i64 n)).run P T=.ok (slice (some ⟨T.heap.size,0,none⟩) n n) (T.alloc (.cells (madeCells z.cells (n*a)) e)):=by
 have:=run_make (P:=P) T t e i z f d g i64 i64 n n (by omega) (Zaa _) (by have:=Int.ofNat_le.2 c;rw[Int.natCast_mul]at this;exact this) (by omega);simpa [b] using this
def j6(w:World)(x:Nat)(fs:Fs)(rep:Bool)(a b c:Value):Prop:=bO w x 80 fs [bool rep,a,b,c]
def VS:Value:=slice none 0 0
def lD(w:World)(x:Nat)(fs:Fs):Prop:=j6 w x fs false VS VS VS
def mP(w:World)(x:Nat)(fs:Fs):Prop:=∃rep a b c,j6 w x fs rep a b c
theorem lD.anyR{a:Fs}(h:lD w l a):mP w l a:=⟨_,_,_,_,h⟩
theorem j6.anyR{a:Fs}(h:j6 w l a z2 i L M):mP w l a:=⟨_,_,_,_,h⟩
theorem lD.Zbw{a:Fs}(h:lD w l a)(k:aa x w S)(b:l∉x):lD S l a:=bO.Zbw h k b
theorem mP.Zbw{d:Fs}(h:mP w l d)(k:aa x w S)(e:l∉x):mP S l d:=by
 obtain⟨r,a,b,c,h⟩:=h;exact⟨r,a,b,c,bO.Zbw h k e⟩
theorem mP.lt{d:Fs}(h:mP w l d):l<w.heap.size:=by
 obtain⟨r,a,b,c,h⟩:=h;exact bO.lt h
theorem j6.cells{a:Fs}(h:j6 w l a z2 i L M) :
  w.cell? ⟨l,9,none⟩=some (bool z2)/\w.cell? ⟨l,10,none⟩=some i/\w.cell? ⟨l,11,none⟩=some L/\w.cell? ⟨l,12,none⟩=some M:=by
 refine⟨?_,?_,?_,?_⟩ <;> (rw[ab h.1];rfl)
def I2(w:World)(x:Nat)(rep:Bool)(a b c:Value):World:=(((w.setCell ⟨x,9,none⟩ (bool rep)).setCell ⟨x,10,none⟩ a).setCell ⟨x,11,none⟩ b).setCell ⟨x,12,none⟩ c
theorem j6.turn{e:Fs}(h:j6 w l e z2 i L M)(a:Bool)(b c d:Value):j6 (I2 w l a b c d) l e a b c d:=by
 refine⟨?_,h.2⟩;unfold I2;rw[ae (ae (ae (ae h.1 9 (bool a)) 10 b) 11 c) 12 d];rfl
theorem Ly(h:aa x w S)(d:l∈x∨w.heap.size<=l)(e:Bool)(a b c:Value):aa x w (I2 S l e a b c) :=
 (((h.setCell d _).setCell d _).setCell d _).setCell d _
theorem VR:Calls prog 26 #[] T fun e a=>e=returned (pointer (some ⟨T.heap.size,0,none⟩))/\lD a T.heap.size []/\aa [] T a:=by
 go_enter func26,ntmps26;go_wp2;go_ret;exact⟨rfl,⟨XD _ _,by simp⟩,(aa.refl _ _).alloc _⟩
theorem Aa(f:Fs)(w:World)(h:mP w H f) :
  Calls prog 32 #[pointer (some ⟨H,0,none⟩)] w fun e g=>e=returned (tuple #[])/\lD g H f/\aa [H] w g:=by
 obtain⟨l,a,b,c,h⟩:=h;obtain⟨m,i,j,k⟩:=h.cells;have n:=bO.free h;have d:Xq _:=h.turn false (slice none 0 0) (slice none 0 0) (slice none 0 0);unfold I2 at d;go_enter func32,ntmps32;go_wp2;go_end0;exact⟨rfl,d.o,Ly (aa.refl _ _) (XQ (by simp)) _ _ _ _⟩
theorem Uj(f:Fs)(w:World)(h:mP w y f)(x:n.size<=1073741824)(u:b.size<=4294967296) :
  Calls prog 13 #[pointer (some ⟨y,0,none⟩),string n,string b] w fun e p=>e=returned (int i64 (fY f n b).1)/\mP p y (fY f n b).2/\((fY f n b).1=0->lD p y (fY f n b).2)/\aa [y] w p:=by
 obtain⟨i,a,j,c,h⟩:=h;have q:=MW y 80 n b f [bool i,a,j,c] w h x u;have d:Xq _:=q;clear q;generalize fY f n b=z at *;obtain⟨t,k⟩:=z;simp only at d ⊢;cases v:(t==0)
 ·go_enter func13,ntmps13;go_wp2_with fail;refine Xx d.o ?_;rintro e s ⟨rfl,l,g⟩;go_wp2;go_ret;exact⟨rfl,⟨i,a,j,c,l⟩,fun e=>by subst e;simp at v,g⟩
 ·go_enter func13,ntmps13;go_wp2_with fail;refine Xx d.o ?_;rintro e s ⟨rfl,l,g⟩;go_wp2_with fail;refine(Aa y k s ⟨i,a,j,c,l⟩).mono ?_;rintro e A ⟨rfl,r,m⟩;go_wp2;go_ret;exact⟨rfl,r.anyR,fun _=>r,g.trans m⟩
def eO(f:Nat->Int):Nat->Int
 | 0=>0
 | n+1=>if(eO f n==0)=true then f n else eO f n
theorem rk{n:Nat}(a:eO z4 l=0)(h:(z4 l==0)=false)(c:l<n):eO z4 n=z4 l:=by
 induction n with
 | zero=>omega
 | succ n b =>
  rw[eO];by_cases e:l=n
  ·subst e;rw[a];rfl
  ·rw[b (by omega),Xz (by rw[h];simp)]
def Jq(fs:Fs)(i:Nat):Int:=if(dE (aI fs i) (ak fs i)==0)=false then dE (aI fs i) (ak fs i) else if 0<=bV (fs.take i) (aI fs i) then 4 else 0
def eC(fs:Fs):Int:=if 4<fs.length then 1 else eO (Jq fs) fs.length
def kU(fs0 fs:Fs):Fs:=if eC fs=0 then fs else fs0
theorem sZ{fs0 a:Fs}(h:eC a=zf)(b:zf≠0):kU fs0 a=fs0:=by unfold kU;rw[Xz (by rw[h];exact b)]
theorem C9{fs0 a:Fs}(h:eC a=0):kU fs0 a=a:=by unfold kU;rw[XA h]
theorem zaV{n:Nat}(h:eO z4 n=0):∀i,i<n->z4 i=0:=by
 induction n with
 | zero=>intro i b;omega
 | succ n c =>
  rw[eO]at h;split at h
  ·next a =>
   intro i b;by_cases e:i=n
   ·rw[e];exact h
   ·exact c (ZR a) i (by omega)
  ·next a=>rw[h]at a;exact absurd rfl a
theorem VL{a:Fs}(h:eC a=0):a.length<=4/\∀j,j<a.length->(ak a j).size<=1024:=by
 unfold eC at h;split at h
 ·cases h
 ·refine⟨by omega,fun j c=>?_⟩;have b:=zaV h j c;unfold Jq at b;split at b
  ·next e=>rw[b]at e;cases e
  ·next e =>
   unfold dE at e;split at e
   ·exact absurd rfl e
   ·split at e
    ·exact absurd rfl e
    ·omega
def nH(fs:Fs):Prop:=∀j,(aI fs j).size<=1073741824/\(ak fs j).size<=1073741824
theorem Ez:(prog.info? 68).map (fun i=>(i.zero,i.size,i.bytes))=some (some (agg #[string ⟨#[]⟩,string ⟨#[]⟩]),2,32):=by kernel_rfl
def WZ(f:Xr×Xr):List Value:=[string f.1,string f.2]
def uA(fs:Fs):List Value:=fs.flatMap WZ
def dq(fs:Fs):eD:=⟨68,2,fs.length,uA fs⟩
theorem zq(a:Fs):(uA a).length=a.length*2:=by
 induction a with
 | nil=>rfl
 | cons t L b=>rw[uA,Yz,XC,show L.flatMap WZ=uA L from rfl,b];simp[WZ];omega
theorem Ah(b:Fs)(j:Nat)(h:j<b.length):(uA b)[j*2]?=some (string (aI b j))/\(uA b)[j*2+1]?=some (string (ak b j)):=by
 induction b generalizing j with
 | nil=>simp at h
 | cons a L f =>
  have e:uA (a :: L)=string a.1 :: string a.2 :: uA L:=rfl;cases j with
  | zero=>exact⟨rfl,rfl⟩
  | succ j =>
   obtain⟨c,d⟩:=f j (by simpa using h);rw[e,show(j+1)*2=j*2+1+1 by omega];exact⟨c,d⟩
theorem Mr(b:Fs)(k:Nat)(n d:Xr)(h:k<b.length):((uA b).set (k*2) (string n)).set (k*2+1) (string d)=uA (b.set k (n,d)):=by
 induction b generalizing k with
 | nil=>simp at h
 | cons a L c =>
  have e:∀x:Xr×Xr,uA (x :: L)=string x.1 :: string x.2 :: uA L:=fun _=>rfl;cases k with
  | zero=>rfl
  | succ k =>
   rw[ZG,show(k+1)*2=k*2+1+1 by omega,e];show _=string a.1 :: string a.2 :: uA (L.set k (n,d));rw[<-c k (by simpa using h)];rfl
theorem Bb(a:Fs)(t:Xr×Xr):(⟨(dq a).e,(dq a).size,(dq a).n+1,(dq a).xs++WZ t⟩:eD)=dq (a++[t]):=by
 simp[dq,uA]
theorem Mq(a:Fs):∀u∈uA a,u.oneCell'=true:=by
 intro u b;obtain⟨x,-,h⟩:=ZaS.1 b;unfold WZ at h;simp only[List.mem_cons,List.not_mem_nil,or_false]at h;rcases h with rfl | rfl <;> rfl
structure It where
 B:Xu
 P:World->Prop
 lt:∀w,P w->∀b,b∈B->b<w.heap.size
 ok:∀S w w',P w->aa S w w'->(∀b,b∈B->b∉S)->P w'
def gC(I:Nat×Nat->It)(k:Nat×Nat)(it:It):Nat×Nat->It:=fun q=>if q=k then it else I q
theorem b9(I:Nat×Nat->It)(k:Nat×Nat)(a:It):gC I k a k=a:=by unfold gC;rw[XA rfl]
theorem aA(I:Nat×Nat->It)(a:It)(h:z5≠z6):gC I z6 a z5=I z5:=by unfold gC;rw[Xz h]
theorem bJ(h:l≠y0):((l,f):Nat×Nat)≠(y0,y1):=fun e=>h (by cases e;rfl)
theorem xG(h:f≠y1):((l,f):Nat×Nat)≠(y0,y1):=fun e=>h (by cases e;rfl)
structure qq(w:World)(I:Nat×Nat->It):Prop where
 all:∀k,(I k).P w
 far:∀k k',k≠k'->∀b,b∈(I k).B->b∉(I k').B
theorem qq.Zbj{I:Nat×Nat->It}(h:qq w I)(k:aa [] w S):qq S I :=
 ⟨fun q=>(I q).ok [] w S (h.all q) k (fun _ _ a=>by cases a),h.far⟩
theorem qq.put{w':World}{I:Nat×Nat->It}(h:qq w I)(k:Nat×Nat)(d:It)(K:aa (I k).B w w')(m:d.P w')(l:∀b,b∈d.B->b∈(I k).B∨w.heap.size<=b):qq w' (gC I k d):=by
 refine⟨fun q=>?_,fun q f i b a c=>?_⟩
 ·by_cases e:q=k
  ·subst e;rw[b9];exact m
  ·rw[aA I d e];exact(I q).ok _ w w' (h.all q) K (fun b a=>h.far q k e b a)
 ·by_cases e:q=k
  ·subst e;rw[b9]at a;rw[aA I d (Ne.symm i)]at c;rcases l b a with g | g
   ·exact h.far q f i b g c
   ·have:=(I f).lt w (h.all f) b c;omega
  ·rw[aA I d e]at a;by_cases j:f=k
   ·subst j;rw[b9]at c;rcases l b c with g | g
    ·exact h.far q f i b a g
    ·have:=(I q).lt w (h.all q) b a;omega
   ·rw[aA I d j]at c;exact h.far q f i b a c
theorem qq.put2{I:Nat×Nat->It}(h:qq w I)(c d:Nat×Nat)(A:c≠d)(j k:It)(K:aa ((I c).B++(I d).B) w S)(D:j.P S)(E:k.P S)(y:∀b,b∈j.B->b∈(I c).B∨w.heap.size<=b)(z:∀b,b∈k.B->b∈(I d).B∨w.heap.size<=b)(u:∀b,b∈j.B->b∉k.B):qq S (gC (gC I c j) d k):=by
 have e:∀q,q≠c->q≠d->∀b,b∈(I q).B->b∉j.B/\b∉k.B:=fun q f a b m=>by
  have:=(I q).lt w (h.all q) b m;refine⟨fun x=>?_,fun x=>?_⟩
  ·rcases y b x with p | p
   ·exact h.far q c f b m p
   ·omega
  ·rcases z b x with p | p
   ·exact h.far q d a b m p
   ·omega
 have s:gC (gC I c j) d k c=j:=by rw[aA _ _ A,b9]
 have t:gC (gC I c j) d k d=k:=b9 _ _ _;have o:∀q,q≠c->q≠d->gC (gC I c j) d k q=I q:=fun q f a=>by rw[aA _ _ a,aA _ _ f]
 refine⟨fun q=>?_,fun q i r b f a=>?_⟩
 ·by_cases l:q=c
  ·subst l;rw[s];exact D
  ·by_cases g:q=d
   ·subst g;rw[t];exact E
   ·rw[o q l g];exact(I q).ok _ w S (h.all q) K (fun b m C=>(X9.1 C).elim (h.far q c l b m) (h.far q d g b m))
 ·by_cases l:q=c
  ·subst l;rw[s]at f;by_cases g:i=d
   ·subst g;rw[t]at a;exact u b f a
   ·rw[o i (Ne.symm r) g]at a;exact(e i (Ne.symm r) g b a).1 f
  ·by_cases g:q=d
   ·subst g;rw[t]at f;by_cases n:i=c
    ·subst n;rw[s]at a;exact u b a f
    ·rw[o i n (Ne.symm r)]at a;exact(e i n (Ne.symm r) b a).2 f
   ·rw[o q l g]at f;by_cases n:i=c
    ·subst n;rw[s]at a;exact(e q l g b f).1 a
    ·by_cases v:i=d
     ·subst v;rw[t]at a;exact(e q l g b f).2 a
     ·rw[o i n v]at a;exact h.far q i r b f a
theorem qq.off{I:Nat×Nat->It}(h:qq w I)(b:z6≠z5)(a:l∈(I z6).B):l∉(I z5).B:=h.far z6 z5 b l a
structure Tk where
 s:Xr
 ZbG:Int
 ZbD:Xr
 ZbE:Int
 ZbF:Int
def Fx(t:Tk):List Value:=[string t.s,int i64 t.ZbG,string t.ZbD,int i64 t.ZbE,int i64 t.ZbF]
def tkC(L:List Tk):List Value:=L.flatMap Fx
def jL(L:List Tk):eD:=⟨138,5,L.length,tkC L⟩
theorem zbo(L:List Tk)(j:Nat)(t:Tk)(h:L[j]?=some t)(c:Nat)(d:c<5):(tkC L)[j*5+c]?=(Fx t)[c]?:=by
 induction L generalizing j with
 | nil=>cases h
 | cons a L b =>
  have e:tkC (a :: L)=Fx a++tkC L:=rfl;cases j with
  | zero =>
   simp at h;subst h;rw[e,XP (by simp[Fx];omega)];simp
  | succ j =>
   rw[e,XO (by simp[Fx];omega),show(j+1)*5+c-(Fx a).length=j*5+c by simp[Fx];omega];exact b j (by simpa using h)
theorem Do(L:List Tk)(t:Tk):(⟨(jL L).e,(jL L).size,(jL L).n+1,(jL L).xs++Fx t⟩:eD)=jL (L++[t]):=by
 simp[jL,tkC]
def dU(d:Xr):Nat->Nat
 | 0=>0
 | i+1=>if dD (aL d i)=true then i+1 else dU d i
def ou(nm d:Xr)(s:Xr)(r:Int)(k:Nat):Tk:=⟨s,r,nm,bb d k,bN d k⟩
def kG(nm d:Xr)(a z:Nat)(L:List Tk):List Tk:=if a=z then L else L++[ou nm d (d.extract a z) 0 a]
def kF(nm d:Xr):Nat->List Tk
 | 0=>[]
 | i+1=>if dD (aL d i)=true then kG nm d (dU d i) i (kF nm d i) else kF nm d i
def uw(n:Int):Bool:=!gG n && !dD n
def ln(d:Xr):Option Nat:=(List.range d.size).find? (fun i=>uw (aL d i))
def jE(nm d:Xr):List Tk:=match ln d with
 | some i=>kF nm d i++[ou nm d ⟨#[]⟩ 1 i]
 | none=>kG nm d (dU d d.size) d.size (kF nm d d.size)++[ou nm d ⟨#[]⟩ 0 d.size]
theorem qV(i:Nat):dU b i<=i:=by
 induction i with
 | zero=>exact Xy _
 | succ i a=>rw[dU];split <;> omega
theorem yh(L:List Tk):(kG n b a H L).length<=L.length+1:=by
 unfold kG;split <;> simp
theorem BC(i:Nat):(kF n b i).length<=i:=by
 induction i with
 | zero=>exact Xy _
 | succ i a =>
  rw[kF];split
  ·have:=yh n b (dU b i) i (kF n b i);omega
  ·omega
theorem DM:(jE n b).length<=b.size+2:=by
 unfold jE;split
 ·next i h =>
  have:=XI.1 (XS h);have:=BC n b i;simp;omega
 ·have:=yh n b (dU b b.size) b.size (kF n b b.size);have:=BC n b b.size;simp;omega
def vH(s u:Xr)(i:Nat):Bool:=((s.extract i (i+u.size)).toList==u.toList)
def jC(s u:Xr):Bool:=(List.range (s.size+1)).any (fun i=>decide (i+u.size<=s.size)&&vH s u i)
def Jp(t:Xr)(l:List UInt8):Bool:=(t.toList==l)
def cC:Bool->List Tk->List Tk
 | _,[]=>[]
 | false,t :: r=>if Jp t.s [36,40]=true then cC true r else t :: cC false r
 | true,t :: r =>
  if(t.ZbG==0)=false then t :: cC true r
  else if Jp t.s [36,41]=true then cC false r
  else if Jp t.s []=true then⟨⟨#[]⟩,3,t.ZbD,t.ZbE,t.ZbF⟩ :: cC true r
  else if(jC t.s ⟨#[36,40]⟩||jC t.s ⟨#[36,41]⟩)=true then [⟨⟨#[]⟩,2,t.ZbD,t.ZbE,t.ZbF⟩]
  else cC true r
theorem QR(b:Bool)(L:List Tk):(cC b L).length<=L.length:=by
 induction L generalizing b with
 | nil=>cases b <;> simp[cC]
 | cons t L a =>
  have c:=a true;have d:=a false;cases b
  ·rw[cC];split <;> simp <;> omega
  ·rw[cC]
   repeat' split
   all_goals (simp;try omega)
end Go.Proofs.YtpdholcaobgofaaGreat
