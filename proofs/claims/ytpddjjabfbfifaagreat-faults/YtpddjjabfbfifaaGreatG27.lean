import Derived.Deep.RegionHeld3
import Derived.Laws.OwnMore
import Derived.Deep.RegionLaw
import Derived.Deep.CutRange
import Derived.Test.YtpddjjabfbfifaaGreatG26
namespace Go.Proofs.YtpddjjabfbfifaaGreat
open Go.RowKit
set_option maxHeartbeats 40000000
def pK(b t:Nat)(c:List Value):It where
 B:=[b]
 P w:=w.heap[b]?=some (.cells c.toArray t (0,0))
 lt w h q hq:=by rw[List.mem_singleton.1 hq];exact ae h
 ok S w w' h k hb:=k.get h (hb b (by simp))
def dd(h:Hd)(r:dK):It where
 B:=h.blk.toList
 P w:=aA w h r
 lt w o q hq:=o.lt (aK hq)
 ok S w w' o k hb:=o.moved (fun q hq=>k.block q (o.lt hq) (hb q (by rw[hq];simp)))
def Kd(x:Nat)(fs:Fs):It where
 B:=[x]
 P w:=bW w x fs
 lt w h q hq:=by rw[List.mem_singleton.1 hq];exact h.lt
 ok S w w' h k hb:=h.kept k (hb x (by simp))
def JX(v:Nat)(h:Hd)(fs:Fs):It where
 B:=v :: h.blk.toList
 P w:=cW w v h fs
 lt w a q hq:=by
  obtain⟨on,p2,p3,p4,a⟩:=a
  rcases List.mem_cons.1 hq with rfl | hq
  ·exact ae a.d
  ·exact a.own.lt (aK hq)
 ok S w w' a k hb:=by
  obtain⟨on,p2,p3,p4,a⟩:=a;exact⟨on,p2,p3,p4,a.keptS k (hb v (by simp)) (fun q hq=>hb q (by rw[hq];simp))⟩
structure gK(w:World)(bo:Option Nat)(fs:Fs):Prop where
 nil:bo=none->fs=[]
 blk:∀b,bo=some b->w.heap[b]?=some (.cells (oE fs).toArray 68 (0,0))
def rL(bo:Option Nat)(fs:Fs):It where
 B:=bo.toList
 P w:=gK w bo fs
 lt w a q hq:=by
  cases bo with
  | none=>cases hq
  | some b=>rw[Option.toList_some,List.mem_singleton]at hq;rw[hq];exact ae (a.blk b rfl)
 ok S w w' a k hb:=⟨a.nil,fun b e=>k.get (a.blk b e) (hb b (by rw[e];simp))⟩
def GR(bo:Option Nat):Option Addr:=bo.map (fun b=>⟨b,0,none⟩)
def xp(x:Option Nat×Fs):Value:=.slice (GR x.1) x.2.length x.2.length
def fP(l:List (Option Nat×Fs)):dK:=⟨33,1,l.length,l.map xp⟩
def IP(x:Nat):Value:=.pointer (some ⟨x,0,none⟩)
def j7(t:Nat)(l:List Nat):dK:=⟨t,1,l.length,l.map IP⟩
structure Mc where
 hx:Hd
 hm:Hd
 hr:Hd
 hl:Hd
 hc:Hd
 V:List (Nat×Nat×Fs)
 reg:Fs
 L:List (Option Nat×Option Nat×Fs)
 a:Int
 n:Int
 e:Int
 u:Int
 s:ByteArray
 p:Int
 q:Int
 f:ByteArray
 i:Int
 j:Int
def Mc.cells(M:Mc):List Value:=[.slice M.hx.ao M.V.length M.hx.cap,.slice M.hm.ao M.V.length M.hm.cap,.slice M.hr.ao M.reg.length M.hr.cap,.slice M.hl.ao M.L.length M.hl.cap,.slice M.hc.ao M.L.length M.hc.cap,.int .i64 M.a,.int .i64 M.n,.int .i64 M.e,.int .i64 M.u,.string M.s,.int .i64 M.p,.int .i64 M.q,.string M.f,.int .i64 M.i,.int .i64 M.j,.slice none 0 0,.slice none 0 0]
structure bM(w:World)(b:Nat)(I:Nat×Nat->It)(M:Mc)(N:Nat):Prop where
 sep:nD w I
 w0:I (0,0)=pK b 42 M.cells
 x:I (1,0)=dd M.hx (j7 46 (M.V.map (·.1)))
 m:I (2,0)=dd M.hm (j7 47 (M.V.map (·.2.1)))
 r:I (3,0)=dd M.hr (b8 M.reg)
 ls:I (4,0)=dd M.hl (fP (M.L.map (fun l=>(l.1,l.2.2))))
 lw:I (5,0)=dd M.hc (fP (M.L.map (fun l=>(l.2.1,l.2.2))))
 v:∀i x m fs,M.V[i]?=some (x,m,fs)->I (6,i)=Kd x fs/\(∃h,I (7,i)=JX m h fs)/\∀j,j<fs.length->(aj fs j).size<=1024
 l:∀k a c fs,M.L[k]?=some (a,c,fs)->I (8,k)=rL a fs/\I (9,k)=rL c fs/\kt fs/\fs.length<=N
 fit:kt M.reg
 len:M.V.length<=N/\M.reg.length<=N/\M.L.length<=N
 rng:rC M.a/\rC M.n/\rC M.e
theorem bM.still{w w':World}{b N:Nat}{I:Nat×Nat->It}{M:Mc}(h:bM w b I M N)(k:ab [] w w'):bM w' b I M N:={ h with sep:=h.sep.still k }
theorem bM.more{w:World}{b N:Nat}{I:Nat×Nat->It}{M:Mc}(h:bM w b I M N):bM w b I M (N+1) :=
 { h with l:=fun k a c fs e=>by obtain⟨h1,h2,h3,h4⟩:=h.l k a c fs e;exact⟨h1,h2,h3,by omega⟩,len:=by obtain⟨h1,h2,h3⟩:=h.len;exact⟨by omega,by omega,by omega⟩ }
theorem bM.blk{w:World}{b N:Nat}{I:Nat×Nat->It}{M:Mc}(h:bM w b I M N):w.heap[b]?=some (.cells M.cells.toArray 42 (0,0)):=by
 have:=h.sep.all (0,0);rw[h.w0]at this;exact this
theorem bM.ownX{w:World}{b N:Nat}{I:Nat×Nat->It}{M:Mc}(h:bM w b I M N):aA w M.hx (j7 46 (M.V.map (·.1))):=by have:=h.sep.all (1,0);rw[h.x]at this;exact this
theorem bM.ownM{w:World}{b N:Nat}{I:Nat×Nat->It}{M:Mc}(h:bM w b I M N):aA w M.hm (j7 47 (M.V.map (·.2.1))):=by have:=h.sep.all (2,0);rw[h.m]at this;exact this
theorem bM.ownR{w:World}{b N:Nat}{I:Nat×Nat->It}{M:Mc}(h:bM w b I M N):aA w M.hr (b8 M.reg):=by have:=h.sep.all (3,0);rw[h.r]at this;exact this
theorem bM.ownL{w:World}{b N:Nat}{I:Nat×Nat->It}{M:Mc}(h:bM w b I M N):aA w M.hl (fP (M.L.map (fun l=>(l.1,l.2.2)))):=by have:=h.sep.all (4,0);rw[h.ls]at this;exact this
theorem bM.ownC{w:World}{b N:Nat}{I:Nat×Nat->It}{M:Mc}(h:bM w b I M N):aA w M.hc (fP (M.L.map (fun l=>(l.2.1,l.2.2)))):=by have:=h.sep.all (5,0);rw[h.lw]at this;exact this
theorem nD.grow{w w':World}{I:Nat×Nat->It}{k:Nat×Nat}{h h':Hd}{r r':dK}(s:nD w I)(e:I k=dd h r)(g:bh w w' h h')(o:aA w' h' r'):nD w' (fe I k (dd h' r')):=by
 refine s.put k _ (by rw[e];exact g.kept) o (fun q hq=>?_);have hq:=aK hq
 rcases g.blk with e2 | ⟨g2,e2,hg⟩
 ·left;rw[e];show q∈h.blk.toList;rw[<-e2,hq];simp
 ·right;rw[e2]at hq;cases hq;exact hg
theorem nD.turn{w w':World}{I:Nat×Nat->It}{k:Nat×Nat}{b t:Nat}{c c':List Value}(s:nD w I)(e:I k=pK b t c)(g:ab [b] w w')(o:w'.heap[b]?=some (.cells c'.toArray t (0,0))):nD w' (fe I k (pK b t c')) :=
 s.put k _ (by rw[e];exact g) o (fun q hq=>by rw[e];exact Or.inl hq)
theorem qj{P:Program}(w:World)(t ty:TypeId)(i:TypeInfo)(z:Value)(bytes:Nat)(h:Hd)(r:dK)(h1:P.underlying t=some (.slice r.e))(h2:P.info? r.e=some i)(h3:i.zero=some z)(h4:i.size=r.size)(h5:i.bytes=bytes)(h6:z.cells.size=r.size)(h7:0<r.size)
  (hown:aA w h r) (ao:Option Addr) (m c:Nat) (news:List Value) (hn:news.length=m*r.size) (hnone:ao=none->m=0/\c=0) (hc:∀ad,ao=some ad->∀j u,news[j]?=some u->w.cell? (ad.add j)=some u) (h1c:∀u∈news,u.oneCell'=true)
  (b1:r.n+m<=maxLen) (b2:(r.n+m)*bytes<=140737488355328) :
  ∃hd' w',(Builtin.append_ #[t,t] ty #[.slice h.ao r.n h.cap,.slice ao m c]).run P w=.ok (.slice hd'.ao (r.n+m) hd'.cap) w' /\
   aA w' hd' ⟨r.e,r.size,r.n+m,r.xs++news⟩/\bh w w' h hd':=by
 cases ao with
 | none =>
  obtain⟨rfl,rfl⟩:=hnone rfl;have hnn:news=[]:=List.eq_nil_of_length_eq_zero (by simpa using hn);subst hnn;have hr:=run_append_owned_none (P:=P) w 0 t ty r.e i r.size h1 h2 (.slice h.ao r.n h.cap) r.n r.xs hown;exact⟨h,w,hr,by rw[List.append_nil];exact hown,bh.still (ab.refl _ _)⟩
 | some ad =>
  have hc:=hc ad rfl
  by_cases hm:0<m
  ·obtain⟨g,cap',w',q1,q2,q3,q4⟩:=ny w t ty i z bytes h r h1 h2 h3 h4 h5 h6 h7 hown ad m c news hn hc h1c hm b1 b2
   exact⟨⟨some ⟨g,0,none⟩,cap'⟩,w',q1,q2,bh.made q3 q4⟩
  ·have e:m=0:=by omega
   subst e;have hnn:news=[]:=List.eq_nil_of_length_eq_zero (by simpa using hn);subst hnn
   rcases hown.ways with ⟨e1,e2,e3⟩ | ⟨g,cur,e1,e2,e3,e4,e5,e6⟩
   ·refine⟨h,w,?_,?_,bh.still (ab.refl _ _)⟩
    ·rw[e1,e2]
     simp[Builtin.append_,run_underlying h1,sizeOf,typeInfo,h2,Builtin.lenOf,Builtin.firstCells,loadCells,loadCellsFrom]
    ·rw[List.append_nil,Nat.add_zero];exact hown
   ·obtain⟨w',hrun,hw,hgr⟩:=run_append_fits (P:=P) w 0 t ty r.e i r.size h1 h2 h4 g r.n h.cap r.xs (by have:=hown;unfold aA at this;rw[e1]at this;exact this) ad 0 c [] hn hc h1c (by omega)
    have hbk:h.blk=some g:=by unfold Hd.blk;rw[e1];rfl
    exact⟨⟨some ⟨g,0,none⟩,h.cap⟩,w',by rw[e1,hrun],hw,bh.made (by rw[hbk];exact hgr) (Or.inl hbk)⟩
theorem eK{P:Program}(w:World){ops:Array Oper}{rest:List Oper}{o:Oper}{a:Act}{Q:Exit->Act->World->Prop}
  (hg:o.guard=none) (s x:Operand) (t:TypeId) (hop:o.op=Op.call { callee:=Callee.builtin Builtin.append,args:=#[s,x],argTypes:=#[t,t] })
  (i:TypeInfo) (z:Value) (bytes:Nat) (h:Hd) (r:dK) (h1:P.underlying t=some (.slice r.e)) (h2:P.info? r.e=some i) (h3:i.zero=some z) (h4:i.size=r.size) (h5:i.bytes=bytes) (h6:z.cells.size=r.size) (h7:0<r.size)
  (hs:a.eval s=.slice h.ao r.n h.cap) (hown:aA w h r) (ao:Option Addr) (m c:Nat) (news:List Value) (hx:a.eval x=.slice ao m c) (hn:news.length=m*r.size) (hnone:ao=none->m=0/\c=0) (hc:∀ad,ao=some ad->∀j u,news[j]?=some u->w.cell? (ad.add j)=some u) (h1c:∀u∈news,u.oneCell'=true)
  (b1:r.n+m<=1000000000) (hb:bytes<=1000)
  (hK:∀h' w',aA w' h' ⟨r.e,r.size,r.n+m,r.xs++news⟩->bh w w' h h'->wpList P ops Q rest (a.put o.dst (.slice h'.ao (r.n+m) h'.cap)) w') :
  wpList P ops Q (o :: rest) a w:=by
 obtain⟨hd',w',hrun,r1,r2⟩:=qj (P:=P) w t o.type i z bytes h r h1 h2 h3 h4 h5 h6 h7 hown ao m c news hn hnone hc h1c (by unfold maxLen;omega) (Nat.le_trans (Nat.mul_le_mul b1 hb) (by omega));refine wpList_plain hg fun K hK'=>?_
 unfold Oper.wp;simp[execOp,hop,resolve,invoke,builtin,hs,hx,hrun,Result.andThen];exact hK' _ _ (hK hd' w' r1 r2)
theorem sX{P:Program}{ops:Array Oper}{o:Oper}{a:Act}{w:World}{K:Act->World->Prop}{Q:Exit->Act->World->Prop}{E:Prop}
  (hg:o.guard=none) (s x:Operand) (t:TypeId) (hop:o.op=Op.call { callee:=Callee.builtin Builtin.append,args:=#[s,x],argTypes:=#[t,t] })
  (i:TypeInfo) (z:Value) (bytes:Nat) (h:Hd) (r:dK) (h1:P.underlying t=some (.slice r.e)) (h2:P.info? r.e=some i) (h3:i.zero=some z) (h4:i.size=r.size) (h5:i.bytes=bytes) (h6:z.cells.size=r.size) (h7:0<r.size)
  (hs:a.eval s=.slice h.ao r.n h.cap) (hown:aA w h r) (ao:Option Addr) (m c:Nat) (news:List Value) (hx:a.eval x=.slice ao m c) (hn:news.length=m*r.size) (hnone:ao=none->m=0/\c=0) (hc:∀ad,ao=some ad->∀j u,news[j]?=some u->w.cell? (ad.add j)=some u) (h1c:∀u∈news,u.oneCell'=true)
  (b1:r.n+m<=1000000000) (hb:bytes<=1000)
  (hK:∀ao' cap' w',aA w' ⟨ao',cap'⟩ ⟨r.e,r.size,r.n+m,r.xs++news⟩->bh w w' h ⟨ao',cap'⟩->K (a.put o.dst (.slice ao' (r.n+m) cap')) w') :
  if Region.wanted o (yielded ops a.tmps)=true then Oper.wp P o a w K Q else E:=by
 have hw:Region.wanted o (yielded ops a.tmps)=true:=by simp[Region.wanted,hg]
 rw[if_pos hw];obtain⟨hd',w',hrun,r1,r2⟩:=qj (P:=P) w t o.type i z bytes h r h1 h2 h3 h4 h5 h6 h7 hown ao m c news hn hnone hc h1c (by unfold maxLen;omega) (Nat.le_trans (Nat.mul_le_mul b1 hb) (by omega));unfold Oper.wp;simp[execOp,hop,resolve,invoke,builtin,hs,hx,hrun,Result.andThen];exact hK hd'.ao hd'.cap w' r1 r2
theorem bD{P:Program}{ops:Array Oper}{o:Oper}{a:Act}(W:World){K:Act->World->Prop}{Q:Exit->Act->World->Prop}{E:Prop}
  (hg:o.guard=none) (s x:Operand) (t:TypeId) (hop:o.op=Op.call { callee:=Callee.builtin Builtin.append,args:=#[s,x],argTypes:=#[t,t] })
  (i:TypeInfo) (z:Value) (bytes:Nat) (h:Hd) (r:dK) (news:List Value) (h1:P.underlying t=some (.slice r.e)) (h2:P.info? r.e=some i) (h3:i.zero=some z) (h4:i.size=r.size) (h5:i.bytes=bytes) (h6:z.cells.size=r.size) (h7:0<r.size)
  (hs:a.eval s=.slice h.ao r.n h.cap) (hown:aA W h r) (hL:r.n<=900000000) (hb:bytes<=1000) (hx:a.eval x=.slice (some ⟨W.heap.size,0,none⟩) 1 1) (hn:news.length=r.size) (h1c:∀u∈news,u.oneCell'=true)
  (hK:∀ao' cap' w',aA w' ⟨ao',cap'⟩ ⟨r.e,r.size,r.n+1,r.xs++news⟩->bh W w' h ⟨ao',cap'⟩->K (a.put o.dst (.slice ao' (r.n+1) cap')) w') :
  if Region.wanted o (yielded ops a.tmps)=true then Oper.wp P o a (W.alloc (.cells news.toArray r.e)).drew K Q else E:=by
 have k1:ab [] W (W.alloc (.cells news.toArray r.e)).drew:=((ab.refl [] _).alloc _).drew;have hk:(W.alloc (.cells news.toArray r.e)).drew.heap[W.heap.size]?=some (.cells news.toArray r.e (0,0)):=heap_alloc_new _ _;refine sX hg s x t hop i z bytes h r h1 h2 h3 h4 h5 h6 h7 hs (hown.still k1) (some ⟨W.heap.size,0,none⟩) 1 1 news hx (by omega) (fun e=>by cases e) ?_ h1c (by omega) hb ?_
 ·intro ad e j u hj
  cases e
  rw[bK,aa hk];simpa using hj
 ·intro ao' cap' w' o' g'
  exact hK ao' cap' w' o' ((bh.still k1).trans g')
def gu(b:Nat)(I:Nat×Nat->It)(N:Nat)(r:Bool)(e:Ending)(w':World):Prop:=e=.returned (.bool r)/\∃I' M',bM w' b I' M' (N+1)/\I' (10,0)=I (10,0)
theorem bM.turn0{w w':World}{b N:Nat}{I:Nat×Nat->It}{M M':Mc}(h:bM w b I M N)(e:(M'.hx=M.hx/\M'.hm=M.hm/\M'.hr=M.hr/\M'.hl=M.hl/\M'.hc=M.hc)/\M'.V=M.V/\M'.reg=M.reg/\M'.L=M.L)(k:ab [b] w w')(o:w'.heap[b]?=some (.cells M'.cells.toArray 42 (0,0)))(hr:rC M'.a/\rC M'.n/\rC M'.e):bM w' b (fe I (0,0) (pK b 42 M'.cells)) M' N:=by
 obtain⟨⟨e1,e2,e3,e4,e5⟩,e6,e7,e8⟩:=e;have q:∀a i,a≠0->fe I (0,0) (pK b 42 M'.cells) (a,i)=I (a,i):=fun a i ha=>aq _ _ (bA ha)
 exact {
  sep:=h.sep.turn h.w0 k o
  w0:=bS _ _ _
  x:=by rw[q 1 0 (by decide),e1,e6];exact h.x
  m:=by rw[q 2 0 (by decide),e2,e6];exact h.m
  r:=by rw[q 3 0 (by decide),e3,e7];exact h.r
  ls:=by rw[q 4 0 (by decide),e4,e8];exact h.ls
  lw:=by rw[q 5 0 (by decide),e5,e8];exact h.lw
  v:=fun i x m fs hi=>by rw[q 6 i (by decide),q 7 i (by decide)];rw[e6]at hi;exact h.v i x m fs hi
  l:=fun i x m fs hi=>by rw[q 8 i (by decide),q 9 i (by decide)];rw[e8]at hi;exact h.l i x m fs hi
  fit:=by rw[e7];exact h.fit
  len:=by rw[e6,e7,e8];exact h.len
  rng:=hr }
theorem bM.boxed{w:World}{b N:Nat}{I:Nat×Nat->It}{M:Mc}(h:bM w b I M N)(k a c d:Int)(s t:ByteArray)(W:World)(hW:w.alloc (.cells #[.int .i64 k,.int .i64 a,.int .i64 c,.int .i64 d,.string s,.string t] 28)=W) :
  bM W b I M N/\W.heap[w.heap.size]?=some (.cells #[.int .i64 k,.int .i64 a,.int .i64 c,.int .i64 d,.string s,.string t] 28 (0,0))/\b<w.heap.size/\ab [] w W:=by
 have k0:ab [] w W:=by rw[<-hW];exact(ab.refl [] _).alloc _
 exact⟨h.still k0,by rw[<-hW];exact heap_alloc_new _ _,ae h.blk,k0⟩
theorem ee{w:World}{B:Nat}{k a c d:Int}{s t:ByteArray}(h:w.heap[B]?=some (.cells #[.int .i64 k,.int .i64 a,.int .i64 c,.int .i64 d,.string s,.string t] 28 (0,0))) :
  w.cell? ⟨B,0,none⟩=some (.int .i64 k)/\w.cell? ⟨B,1,none⟩=some (.int .i64 a)/\w.cell? ⟨B,2,none⟩=some (.int .i64 c)/\w.cell? ⟨B,3,none⟩=some (.int .i64 d)/\w.cell? ⟨B,4,none⟩=some (.string s)/\w.cell? ⟨B,5,none⟩=some (.string t)/\B<w.heap.size:=by
 refine⟨?_,?_,?_,?_,?_,?_,ae h⟩ <;> (rw[aa h];rfl)
set_option maxRecDepth 100000 in
theorem Ki(b N:Nat)(I:Nat×Nat->It)(M:Mc)(A C D:Int)(s t:ByteArray)(w:World)(h:bM w b I M N)(hA:rC A)(hC:rC C)(hD:rC D) :
  Calls Tryz.prog 11 #[.pointer (some ⟨b,0,none⟩),.agg #[.int .i64 7,.int .i64 A,.int .i64 C,.int .i64 D,.string s,.string t]] w fun e w'=>gu b I N true e w':=by
 obtain⟨W,HW⟩:∃W,Hid (w.alloc (.cells #[.int .i64 7,.int .i64 A,.int .i64 C,.int .i64 D,.string s,.string t] 28)=W):=⟨_,rfl⟩
 obtain⟨hM,hB,hbw,-⟩:=h.boxed 7 A C D s t W HW.out;obtain⟨o0,o1,o2,o3,o4,o5,oz⟩:=ee hB;have c5:W.cell? ⟨b,5,none⟩=some (.int .i64 M.a):=by rw[aa hM.blk];rfl
 have c6:W.cell? ⟨b,6,none⟩=some (.int .i64 M.n):=by rw[aa hM.blk];rfl
 have c7:W.cell? ⟨b,7,none⟩=some (.int .i64 M.e):=by rw[aa hM.blk];rfl
 have fb:=ak hM.blk;have bz:=ae hM.blk;have hne:b≠w.heap.size:=by omega
 have hne2:w.heap.size≠b:=by omega
 have HF:Hid (bM (((W.setCell ⟨b,5,none⟩ (.int .i64 A)).setCell ⟨b,6,none⟩ (.int .i64 C)).setCell ⟨b,7,none⟩ (.int .i64 D)) b _ { M with a:=A,n:=C,e:=D } N) :=
  hM.turn0 (M':={ M with a:=A,n:=C,e:=D }) ⟨⟨rfl,rfl,rfl,rfl,rfl⟩,rfl,rfl,rfl⟩ ((((ab.refl [b] _).setCell (Or.inl (by simp)) _).setCell (Or.inl (by simp)) _).setCell (Or.inl (by simp)) _) (by rw[ah (ah (ah hM.blk 5 _) 6 _) 7 _];rfl) ⟨hA,hC,hD⟩
 clear h hM hB;go_enter Tryz.func11,Tryz.ntmps11
 go_upto_region 1 with fail
 rw[HW.out];go_wp2;go_ret;exact⟨rfl,_,_,HF.out.more,aq _ _ (bA (by decide))⟩
set_option maxRecDepth 100000 in
theorem Jw(b N:Nat)(I:Nat×Nat->It)(M:Mc)(A C D:Int)(s t:ByteArray)(w:World)(h:bM w b I M N) :
  Calls Tryz.prog 11 #[.pointer (some ⟨b,0,none⟩),.agg #[.int .i64 16,.int .i64 A,.int .i64 C,.int .i64 D,.string s,.string t]] w fun e w'=>gu b I N true e w':=by
 obtain⟨W,HW⟩:∃W,Hid (w.alloc (.cells #[.int .i64 16,.int .i64 A,.int .i64 C,.int .i64 D,.string s,.string t] 28)=W):=⟨_,rfl⟩
 obtain⟨hM,hB,hbw,-⟩:=h.boxed 16 A C D s t W HW.out;obtain⟨o0,o1,o2,o3,o4,o5,oz⟩:=ee hB;have fb:=ak hM.blk;have bz:=ae hM.blk;have hne:b≠w.heap.size:=by omega
 have hne2:w.heap.size≠b:=by omega
 have c8:W.cell? ⟨b,8,none⟩=some (.int .i64 M.u):=by rw[aa hM.blk];rfl
 have HF:Hid (bM (W.setCell ⟨b,8,none⟩ (.int .i64 A)) b _ { M with u:=A } N) :=
  hM.turn0 (M':={ M with u:=A }) ⟨⟨rfl,rfl,rfl,rfl,rfl⟩,rfl,rfl,rfl⟩ ((ab.refl [b] _).setCell (Or.inl (by simp)) _) (by rw[ah hM.blk 8 _];rfl) hM.rng
 clear h hM hB;go_enter Tryz.func11,Tryz.ntmps11
 go_upto_region 1 with fail
 rw[HW.out];go_wp2;go_ret;exact⟨rfl,_,_,HF.out.more,aq _ _ (bA (by decide))⟩
set_option maxRecDepth 100000 in
theorem IE(b N:Nat)(I:Nat×Nat->It)(M:Mc)(A C D:Int)(s t:ByteArray)(w:World)(h:bM w b I M N) :
  Calls Tryz.prog 11 #[.pointer (some ⟨b,0,none⟩),.agg #[.int .i64 17,.int .i64 A,.int .i64 C,.int .i64 D,.string s,.string t]] w fun e w'=>gu b I N true e w':=by
 obtain⟨W,HW⟩:∃W,Hid (w.alloc (.cells #[.int .i64 17,.int .i64 A,.int .i64 C,.int .i64 D,.string s,.string t] 28)=W):=⟨_,rfl⟩
 obtain⟨hM,hB,hbw,-⟩:=h.boxed 17 A C D s t W HW.out;obtain⟨o0,o1,o2,o3,o4,o5,oz⟩:=ee hB;have fb:=ak hM.blk;have bz:=ae hM.blk;have hne:b≠w.heap.size:=by omega
 have hne2:w.heap.size≠b:=by omega
 have c15:W.cell? ⟨b,15,none⟩=some (.slice none 0 0):=by rw[aa hM.blk];rfl
 have HF:Hid (bM W b I M N):=hM;clear h hM hB;go_enter Tryz.func11,Tryz.ntmps11
 go_upto_region 1 with fail
 rw[HW.out];go_wp2;go_ret;exact⟨rfl,_,_,HF.out.more,rfl⟩
set_option maxRecDepth 100000 in
theorem I9(b N:Nat)(I:Nat×Nat->It)(M:Mc)(A C D:Int)(s t:ByteArray)(w:World)(h:bM w b I M N) :
  Calls Tryz.prog 11 #[.pointer (some ⟨b,0,none⟩),.agg #[.int .i64 18,.int .i64 A,.int .i64 C,.int .i64 D,.string s,.string t]] w fun e w'=>gu b I N true e w':=by
 obtain⟨W,HW⟩:∃W,Hid (w.alloc (.cells #[.int .i64 18,.int .i64 A,.int .i64 C,.int .i64 D,.string s,.string t] 28)=W):=⟨_,rfl⟩
 obtain⟨hM,hB,hbw,-⟩:=h.boxed 18 A C D s t W HW.out;obtain⟨o0,o1,o2,o3,o4,o5,oz⟩:=ee hB;have fb:=ak hM.blk;have bz:=ae hM.blk;have hne:b≠w.heap.size:=by omega
 have hne2:w.heap.size≠b:=by omega
 have c16:W.cell? ⟨b,16,none⟩=some (.slice none 0 0):=by rw[aa hM.blk];rfl
 have HF:Hid (bM W b I M N):=hM;clear h hM hB;go_enter Tryz.func11,Tryz.ntmps11
 go_upto_region 1 with fail
 rw[HW.out];go_wp2;go_ret;exact⟨rfl,_,_,HF.out.more,rfl⟩
set_option maxRecDepth 100000 in
theorem mE(b N:Nat)(I:Nat×Nat->It)(M:Mc)(k A C D:Int)(s t:ByteArray)(w:World)(h:bM w b I M N)(hk:(8<=k/\k<=14)∨19<=k) :
  Calls Tryz.prog 11 #[.pointer (some ⟨b,0,none⟩),.agg #[.int .i64 k,.int .i64 A,.int .i64 C,.int .i64 D,.string s,.string t]] w fun e w'=>e=.returned (.bool false)/\ab [] w w':=by
 obtain⟨W,HW⟩:∃W,Hid (w.alloc (.cells #[.int .i64 k,.int .i64 A,.int .i64 C,.int .i64 D,.string s,.string t] 28)=W):=⟨_,rfl⟩
 obtain⟨hM,hB,hbw,hkW⟩:=h.boxed k A C D s t W HW.out;obtain⟨o0,-⟩:=ee hB;have HK:Hid (ab [] w W):=hkW;have oz:=ae hB;have hn:∀m:Int,(k=m->False)->(k==m)=false:=fun m hm=>beq_eq_false_iff_ne.2 hm
 have n1:=hn 1 (by omega);have n2:=hn 2 (by omega);have n3:=hn 3 (by omega);have n4:=hn 4 (by omega);have n5:=hn 5 (by omega);have n6:=hn 6 (by omega);have n7:=hn 7 (by omega);have n15:=hn 15 (by omega);have n16:=hn 16 (by omega);have n17:=hn 17 (by omega);have n18:=hn 18 (by omega);clear h hM hB hn hk hkW;go_enter Tryz.func11,Tryz.ntmps11
 go_upto_region 1 with fail
 rw[HW.out];go_wp2;go_ret;exact⟨rfl,HK.out⟩
set_option maxRecDepth 100000 in
theorem Jr(b N:Nat)(I:Nat×Nat->It)(M:Mc)(A C D:Int)(s t:ByteArray)(w:World)(h:bM w b I M N) :
  Calls Tryz.prog 11 #[.pointer (some ⟨b,0,none⟩),.agg #[.int .i64 15,.int .i64 A,.int .i64 C,.int .i64 D,.string s,.string t]] w fun e w'=>gu b I N true e w':=by
 obtain⟨W,HW⟩:∃W,Hid (w.alloc (.cells #[.int .i64 15,.int .i64 A,.int .i64 C,.int .i64 D,.string s,.string t] 28)=W):=⟨_,rfl⟩
 obtain⟨hM,hB,hbw,-⟩:=h.boxed 15 A C D s t W HW.out;obtain⟨o0,o1,o2,o3,o4,o5,oz⟩:=ee hB;have fb:=ak hM.blk;have bz:=ae hM.blk;have hne:b≠w.heap.size:=by omega
 have hne2:w.heap.size≠b:=by omega
 have c8:W.cell? ⟨b,8,none⟩=some (.int .i64 M.u):=by rw[aa hM.blk];rfl
 have c9:W.cell? ⟨b,9,none⟩=some (.string M.s):=by rw[aa hM.blk];rfl
 have c10:W.cell? ⟨b,10,none⟩=some (.int .i64 M.p):=by rw[aa hM.blk];rfl
 have c11:W.cell? ⟨b,11,none⟩=some (.int .i64 M.q):=by rw[aa hM.blk];rfl
 have c12:W.cell? ⟨b,12,none⟩=some (.string M.f):=by rw[aa hM.blk];rfl
 have c13:W.cell? ⟨b,13,none⟩=some (.int .i64 M.i):=by rw[aa hM.blk];rfl
 have c14:W.cell? ⟨b,14,none⟩=some (.int .i64 M.j):=by rw[aa hM.blk];rfl
 have HF:Hid (bM (((((((W.setCell ⟨b,9,none⟩ (.string s)).setCell ⟨b,10,none⟩ (.int .i64 A)).setCell ⟨b,11,none⟩ (.int .i64 C)).setCell ⟨b,12,none⟩ (.string t)).setCell ⟨b,13,none⟩ (.int .i64 D)).setCell ⟨b,14,none⟩ (.int .i64 M.u)).drew) b _ { M with s:=s,p:=A,q:=C,f:=t,i:=D,j:=M.u } N) :=
  (hM.turn0 (M':={ M with s:=s,p:=A,q:=C,f:=t,i:=D,j:=M.u }) ⟨⟨rfl,rfl,rfl,rfl,rfl⟩,rfl,rfl,rfl⟩ ((((((((ab.refl [b] _).setCell (Or.inl (by simp)) _).setCell (Or.inl (by simp)) _).setCell (Or.inl (by simp)) _).setCell (Or.inl (by simp)) _).setCell (Or.inl (by simp)) _).setCell (Or.inl (by simp)) _)) (by rw[ah (ah (ah (ah (ah (ah hM.blk 9 _) 10 _) 11 _) 12 _) 13 _) 14 _];rfl) hM.rng).still (ab.refl [] _).drew
 clear h hM hB;go_enter Tryz.func11,Tryz.ntmps11
 go_upto_region 1 with fail
 rw[HW.out]
 go_upto_region 38 with fail
 go_region
 all_goals go_wp2
 all_goals go_ret
 all_goals exact⟨rfl,_,_,HF.out.more,aq _ _ (bA (by decide))⟩
theorem bM.clear{w w':World}{b N:Nat}{I:Nat×Nat->It}{M:Mc}(h:bM w b I M N)(k:ab [b] w w')(o:w'.heap[b]?=some (.cells ({ M with hr:=⟨none,0⟩,reg:=[] }:Mc).cells.toArray 42 (0,0))):∃I',bM w' b I' { M with hr:=⟨none,0⟩,reg:=[] } N/\I' (10,0)=I (10,0):=by
 have s1:=h.sep.turn h.w0 k o;have s2:=s1.put (3,0) (dd ⟨none,0⟩ (b8 [])) ((ab.refl _ w').mono (fun _ hx _=>hx)) (World.ownsRow_nil _ _ _ _) (fun q hq=>by cases hq);refine⟨fe (fe I (0,0) (pK b 42 ({ M with hr:=⟨none,0⟩,reg:=[] }:Mc).cells)) (3,0) (dd ⟨none,0⟩ (b8 [])),?_,?_⟩
 rotate_left
 ·rw[aq _ _ (bA (by decide)),aq _ _ (bA (by decide))]
 have q:∀a i,a≠0->a≠3->(fe (fe I (0,0) (pK b 42 ({ M with hr:=⟨none,0⟩,reg:=[] }:Mc).cells)) (3,0) (dd ⟨none,0⟩ (b8 []))) (a,i)=I (a,i):=fun a i h0 h3=>by rw[aq _ _ (bA h3),aq _ _ (bA h0)]
 exact {
  sep:=s2
  w0:=by rw[aq _ _ (bA (by decide))];exact bS _ _ _
  x:=by rw[q 1 0 (by decide) (by decide)];exact h.x
  m:=by rw[q 2 0 (by decide) (by decide)];exact h.m
  r:=bS _ _ _
  ls:=by rw[q 4 0 (by decide) (by decide)];exact h.ls
  lw:=by rw[q 5 0 (by decide) (by decide)];exact h.lw
  v:=fun i x m fs hi=>by rw[q 6 i (by decide) (by decide),q 7 i (by decide) (by decide)];exact h.v i x m fs hi
  l:=fun i x m fs hi=>by rw[q 8 i (by decide) (by decide),q 9 i (by decide) (by decide)];exact h.l i x m fs hi
  fit:=fun j=>⟨by show(0:Nat)<=_;omega,by show(0:Nat)<=_;omega⟩
  len:=⟨h.len.1,Nat.zero_le _,h.len.2.2⟩
  rng:=h.rng }
set_option maxRecDepth 100000 in
theorem KN(b N:Nat)(I:Nat×Nat->It)(M:Mc)(A C D:Int)(s t:ByteArray)(w:World)(h:bM w b I M N) :
  Calls Tryz.prog 11 #[.pointer (some ⟨b,0,none⟩),.agg #[.int .i64 3,.int .i64 A,.int .i64 C,.int .i64 D,.string s,.string t]] w fun e w'=>gu b I N true e w':=by
 obtain⟨W,HW⟩:∃W,Hid (w.alloc (.cells #[.int .i64 3,.int .i64 A,.int .i64 C,.int .i64 D,.string s,.string t] 28)=W):=⟨_,rfl⟩
 obtain⟨hM,hB,hbw,-⟩:=h.boxed 3 A C D s t W HW.out;obtain⟨o0,o1,o2,o3,o4,o5,oz⟩:=ee hB;have fb:=ak hM.blk;have bz:=ae hM.blk;have hne:b≠w.heap.size:=by omega
 have hne2:w.heap.size≠b:=by omega
 have c2:W.cell? ⟨b,2,none⟩=some (.slice M.hr.ao M.reg.length M.hr.cap):=by rw[aa hM.blk];rfl
 have HF:Hid (∃I',bM (W.setCell ⟨b,2,none⟩ (.slice none 0 0)) b I' { M with hr:=⟨none,0⟩,reg:=[] } N/\I' (10,0)=I (10,0)) :=
  hM.clear ((ab.refl [b] _).setCell (Or.inl (by simp)) _) (by rw[ah hM.blk 2 _];rfl)
 clear h hM hB;go_enter Tryz.func11,Tryz.ntmps11
 go_upto_region 1 with fail
 rw[HW.out];go_wp2;go_ret;obtain⟨I',hI,hI2⟩:=HF.out;exact⟨rfl,I',_,hI.more,hI2⟩
theorem dc{P:Program}(w:World){ops:Array Oper}{rest:List Oper}{o:Oper}{a:Act}{Q:Exit->Act->World->Prop}
  (hg:o.guard=none) (s x:Operand) (t:TypeId) (hop:o.op=Op.call { callee:=Callee.builtin Builtin.append,args:=#[s,x],argTypes:=#[t,t] })
  (i:TypeInfo) (z:Value) (bytes:Nat) (h:Hd) (r:dK) (news:List Value) (h1:P.underlying t=some (.slice r.e)) (h2:P.info? r.e=some i) (h3:i.zero=some z) (h4:i.size=r.size) (h5:i.bytes=bytes) (h6:z.cells.size=r.size) (h7:0<r.size)
  (hs:a.eval s=.slice h.ao r.n h.cap) (hown:aA w h r) (hL:r.n<=4294967296) (hb:bytes<=1000) (hx:a.eval x=.slice (some ⟨w.heap.size,0,none⟩) 1 1) (hn:news.length=r.size) (h1c:∀u∈news,u.oneCell'=true)
  (hK:∀h' w',aA w' h' ⟨r.e,r.size,r.n+1,r.xs++news⟩->bh w w' h h'->wpList P ops Q rest (a.put o.dst (.slice h'.ao (r.n+1) h'.cap)) w') :
  wpList P ops Q (o :: rest) a (w.alloc (.cells news.toArray r.e)):=by
 have k1:ab [] w (w.alloc (.cells news.toArray r.e)):=(ab.refl [] _).alloc _;have hk:(w.alloc (.cells news.toArray r.e)).heap[w.heap.size]?=some (.cells news.toArray r.e (0,0)):=heap_alloc_new _ _;obtain⟨hd',w',hrun,r1,r2⟩:=qj (P:=P) (w.alloc (.cells news.toArray r.e)) t o.type i z bytes h r h1 h2 h3 h4 h5 h6 h7 (hown.still k1) (some ⟨w.heap.size,0,none⟩) 1 1 news (by omega) (fun e=>by cases e) (fun ad e j u hj=>by cases e;rw[bK,aa hk];simpa using hj) h1c (by unfold maxLen;omega) (Nat.le_trans (Nat.mul_le_mul (show r.n+1<=4294967297 by omega) hb) (by omega));refine wpList_plain hg fun K hK'=>?_
 unfold Oper.wp;simp[execOp,hop,resolve,invoke,builtin,hs,hx,hrun,Result.andThen];exact hK' _ _ (hK hd' w' r1 ((bh.still k1).trans r2))
theorem qT{P:Program}{ops:Array Oper}{o:Oper}{a:Act}(W:World){K:Act->World->Prop}{Q:Exit->Act->World->Prop}{E:Prop}
  (hg:o.guard=none) (s x:Operand) (t:TypeId) (hop:o.op=Op.call { callee:=Callee.builtin Builtin.append,args:=#[s,x],argTypes:=#[t,t] })
  (i:TypeInfo) (z:Value) (bytes:Nat) (h:Hd) (r:dK) (news:List Value) (h1:P.underlying t=some (.slice r.e)) (h2:P.info? r.e=some i) (h3:i.zero=some z) (h4:i.size=r.size) (h5:i.bytes=bytes) (h6:z.cells.size=r.size) (h7:0<r.size)
  (hs:a.eval s=.slice h.ao r.n h.cap) (hown:aA W h r) (hL:r.n<=4294967296) (hb:bytes<=1000) (hx:a.eval x=.slice (some ⟨W.heap.size,0,none⟩) 1 1) (hn:news.length=r.size) (h1c:∀u∈news,u.oneCell'=true)
  (hK:∀ao' cap' w',aA w' ⟨ao',cap'⟩ ⟨r.e,r.size,r.n+1,r.xs++news⟩->bh W w' h ⟨ao',cap'⟩->K (a.put o.dst (.slice ao' (r.n+1) cap')) w') :
  if Region.wanted o (yielded ops a.tmps)=true then Oper.wp P o a (W.alloc (.cells news.toArray r.e)).drew K Q else E:=by
 have k1:ab [] W (W.alloc (.cells news.toArray r.e)).drew:=((ab.refl [] _).alloc _).drew;have hk:(W.alloc (.cells news.toArray r.e)).drew.heap[W.heap.size]?=some (.cells news.toArray r.e (0,0)):=heap_alloc_new _ _;obtain⟨hd',w',hrun,r1,r2⟩:=qj (P:=P) (W.alloc (.cells news.toArray r.e)).drew t o.type i z bytes h r h1 h2 h3 h4 h5 h6 h7 (hown.still k1) (some ⟨W.heap.size,0,none⟩) 1 1 news (by omega) (fun e=>by cases e) (fun ad e j u hj=>by cases e;rw[bK,aa hk];simpa using hj) h1c (by unfold maxLen;omega) (Nat.le_trans (Nat.mul_le_mul (show r.n+1<=4294967297 by omega) hb) (by omega));have hw:Region.wanted o (yielded ops a.tmps)=true:=by simp[Region.wanted,hg]
 rw[if_pos hw];unfold Oper.wp;simp[execOp,hop,resolve,invoke,builtin,hs,hx,hrun,Result.andThen];exact hK hd'.ao hd'.cap w' r1 ((bh.still k1).trans r2)
theorem nD.grown{w w5:World}{I:Nat×Nat->It}{b T:Nat}{c:List Value}{k:Nat×Nat}{hd h5:Hd}{r r':dK}(s:nD w I)(e0:I (0,0)=pK b T c)(hk:k≠(0,0))(e:I k=dd hd r)(g:bh w w5 hd h5)(o:aA w5 h5 r')(j:Nat)(v:Value) :
  nD (w5.setCell ⟨b,j,none⟩ v) (fe (fe I k (dd h5 r')) (0,0) (pK b T (c.set j v))):=by
 have s1:=s.grow e g o;have e1:fe I k (dd h5 r') (0,0)=pK b T c:=by rw[aq _ _ (Ne.symm hk)];exact e0
 refine s1.turn e1 ((ab.refl [b] _).setCell (Or.inl (by simp)) _) ?_;have h0:=s1.all (0,0);rw[e1]at h0;rw[ah (show w5.heap[b]?=some (.cells c.toArray T (0,0)) from h0) j v,List.setIfInBounds_toArray]
theorem Dm(f:ByteArray×ByteArray):∀u∈J0 f,u.oneCell'=true:=by
 intro u hu;simp only[J0,List.mem_cons,List.not_mem_nil,or_false]at hu
 rcases hu with rfl | rfl <;> rfl
theorem wW{fs:Fs}(h:kt fs){n d:ByteArray}(hn:n.size<=1073741824)(hd:d.size<=1073741824):kt (fs++[(n,d)]):=by
 intro j;have:=h j;unfold aC aj at *;rw[List.getD_eq_getElem?_getD]at *
 by_cases e:j<fs.length
 ·rw[List.getElem?_append_left e];exact this
 ·rw[List.getElem?_append_right (by omega)]
  cases e2:j-fs.length with
  | zero=>exact⟨hn,hd⟩
  | succ q=>exact⟨by show(0:Nat)<=_;omega,by show(0:Nat)<=_;omega⟩
theorem bM.addR{w w5:World}{b N:Nat}{I:Nat×Nat->It}{M:Mc}{h5:Hd}{n d:ByteArray}(h:bM w b I M N)(g:bh w w5 M.hr h5)(o:aA w5 h5 (b8 (M.reg++[(n,d)])))(hn:n.size<=1073741824)(hd:d.size<=1073741824):∃I' M',bM (w5.setCell ⟨b,2,none⟩ (.slice h5.ao (M.reg.length+1) h5.cap)) b I' M' (N+1)/\I' (10,0)=I (10,0):=by
 have s1:=h.sep.grown h.w0 (bA (by decide)) h.r g o 2 (.slice h5.ao (M.reg.length+1) h5.cap);refine⟨fe (fe I (3,0) (dd h5 (b8 (M.reg++[(n,d)])))) (0,0) (pK b 42 (M.cells.set 2 (.slice h5.ao (M.reg.length+1) h5.cap))),{ M with hr:=h5,reg:=M.reg++[(n,d)] },?_,?_⟩
 rotate_left
 ·rw[aq _ _ (bA (by decide)),aq _ _ (bA (by decide))]
 have q:∀a i,a≠0->a≠3->(fe (fe I (3,0) (dd h5 (b8 (M.reg++[(n,d)])))) (0,0) (pK b 42 (M.cells.set 2 (.slice h5.ao (M.reg.length+1) h5.cap)))) (a,i)=I (a,i):=fun a i h0 h3=>by rw[aq _ _ (bA h0),aq _ _ (bA h3)]
 have h':=h.more
 exact {
  sep:=s1
  w0:=by rw[bS];unfold Mc.cells;rw[List.length_append];rfl
  x:=by rw[q 1 0 (by decide) (by decide)];exact h.x
  m:=by rw[q 2 0 (by decide) (by decide)];exact h.m
  r:=by rw[aq _ _ (bA (by decide))];exact bS _ _ _
  ls:=by rw[q 4 0 (by decide) (by decide)];exact h.ls
  lw:=by rw[q 5 0 (by decide) (by decide)];exact h.lw
  v:=fun i x m fs hi=>by rw[q 6 i (by decide) (by decide),q 7 i (by decide) (by decide)];exact h.v i x m fs hi
  l:=fun i x m fs hi=>by rw[q 8 i (by decide) (by decide),q 9 i (by decide) (by decide)];exact h'.l i x m fs hi
  fit:=wW h.fit hn hd
  len:=⟨h'.len.1,by have:=h.len.2.1;show(M.reg++[(n,d)]).length<=_;rw[List.length_append];show _+1<=_;omega,h'.len.2.2⟩
  rng:=h.rng }
set_option maxRecDepth 100000 in
theorem Kv(b N:Nat)(I:Nat×Nat->It)(M:Mc)(A C D:Int)(s t:ByteArray)(w:World)(h:bM w b I M N)(hN:N<=1073741824)(hs:s.size<=1073741824)(ht:t.size<=1073741824) :
  Calls Tryz.prog 11 #[.pointer (some ⟨b,0,none⟩),.agg #[.int .i64 2,.int .i64 A,.int .i64 C,.int .i64 D,.string s,.string t]] w fun e w'=>gu b I N true e w':=by
 obtain⟨W,HW⟩:∃W,Hid (w.alloc (.cells #[.int .i64 2,.int .i64 A,.int .i64 C,.int .i64 D,.string s,.string t] 28)=W):=⟨_,rfl⟩
 obtain⟨hM,hB,hbw,-⟩:=h.boxed 2 A C D s t W HW.out;obtain⟨o0,o1,o2,o3,o4,o5,oz⟩:=ee hB;obtain⟨iF,hiF,hzF0,hzF1,hzF2⟩:=info_parts xO;have fb:=ak hM.blk;have bz:=ae hM.blk;have hne:b≠w.heap.size:=by omega
 have hne2:w.heap.size≠b:=by omega
 have c2:W.cell? ⟨b,2,none⟩=some (.slice M.hr.ao M.reg.length M.hr.cap):=by rw[aa hM.blk];rfl
 have HM:Hid (bM W b I M N):=hM;have hOw:=hM.ownR;have hPb:Hid ((b8 M.reg).n<=4294967296):=by show M.reg.length<=_;have:=h.len.2.1;omega
 have HPn:Hid ((b8 M.reg).n=M.reg.length):=rfl;have HFar:Hid (b∉M.hr.blk.toList):=fun hq=>hM.sep.far (0,0) (3,0) (bA (by decide)) b (by rw[hM.w0];exact List.mem_singleton.2 rfl) (by rw[hM.r];exact hq)
 clear h hM hB;go_enter Tryz.func11,Tryz.ntmps11
 go_upto_region 1 with fail
 rw[HW.out]
 go_upto_region 9 with fail
 go_region_law (refine qT W rfl (.tmp 51) (.tmp 57) 33 rfl iF (.agg #[.string ⟨#[]⟩,.string ⟨#[]⟩]) 32 M.hr (b8 M.reg) (J0 (s,t)) Tryz.underlying33 hiF hzF0 hzF1 hzF2 rfl Nat.two_pos (by rw[HPn.out];simp[Act.eval]) hOw hPb.out (by omega) (by simp[Act.eval]) rfl (Dm (s,t)) ?_;intro ao5 cap5 w5 hw5 hg5;have p5:=hg5.kept.get HM.out.blk HFar.out;have f5:=ak p5 2;have c5:w5.cell? ⟨b,2,none⟩=some (.slice M.hr.ao M.reg.length M.hr.cap):=(by rw[aa p5];rfl);have z5:=ae p5)
 all_goals
  rw[uD]at hw5;have HF:=(show Hid _ from HM.out.addR hg5 hw5 hs ht);rw[HPn.out];go_wp2;go_ret;obtain⟨I',M',h1,h2⟩:=HF.out;exact⟨rfl,I',M',h1,h2⟩
structure vp(w wr:World)(nm d:ByteArray)(h:Hd)(L:List Tk):Prop where
 f:wr.heap[w.heap.size]?=some (.cells #[.string nm,.string d] 68 (0,0))
 own:aA wr h (ge L)
 far:∀k,h.blk=some k->w.heap.size<k
 kept:ab [] w wr
theorem vp.still{w wr wr':World}{nm d:ByteArray}{h:Hd}{L:List Tk}(a:vp w wr nm d h L)(k:ab [] wr wr'):vp w wr' nm d h L :=
 ⟨k.get a.f (by simp),a.own.still k,a.far,a.kept.trans k⟩
theorem vp.grew{w wr wr':World}{nm d:ByteArray}{h h':Hd}{L L':List Tk}(a:vp w wr nm d h L)(g:bh wr wr' h h')(o:aA wr' h' (ge L')):vp w wr' nm d h' L':=by
 have hz:=ae a.f;refine⟨g.kept.get a.f (fun hq=>by have:=a.far _ (aK hq);omega),o,fun k hk=>?_,⟨g.kept.os.trans a.kept.os,g.kept.tape.trans a.kept.tape,g.kept.output.trans a.kept.output,Nat.le_trans a.kept.size g.kept.size,fun k hk _=>?_⟩⟩
 ·rcases g.blk with e | ⟨q,e,hq⟩
  ·exact a.far k (by rw[<-e];exact hk)
  ·rw[e]at hk;cases hk;omega
 ·rw[g.kept.block k (Nat.lt_of_lt_of_le hk a.kept.size) (fun hq=>by have:=a.far _ (aK hq);omega),a.kept.block k hk (by simp)]
theorem uj{w1 W:World}{f:ByteArray}{l c:Int}(h:Hid (w1.alloc (.cells #[.string f,.int .i64 l,.int .i64 c] 36)=W)):ab [] w1 W/\w1.heap.size<W.heap.size/\W.cell? ⟨w1.heap.size,0,none⟩=some (.string f)/\W.cell? ⟨w1.heap.size,1,none⟩=some (.int .i64 l)/\W.cell? ⟨w1.heap.size,2,none⟩=some (.int .i64 c):=by
 have BP:W.heap[w1.heap.size]?=some (.cells #[.string f,.int .i64 l,.int .i64 c] 36 (0,0)):=by rw[<-h.out];exact heap_alloc_new _ _
 exact⟨by rw[<-h.out];exact(ab.refl [] _).alloc _,ae BP,by rw[aa BP];rfl,by rw[aa BP];rfl,by rw[aa BP];rfl⟩
theorem Kp{d:ByteArray}{k:Nat}(hk:k<d.size)(h:oA (aF d k)=true)(ha:∀j,j<k->oA (aF d j)=false):iE d=some k:=by
 unfold iE;rw[List.find?_range_eq_some];exact⟨h,List.mem_range.2 hk,fun j hj=>by rw[ha j hj];rfl⟩
theorem GZ{d:ByteArray}(ha:∀j,j<d.size->oA (aF d j)=false):iE d=none:=by
 unfold iE;rw[List.find?_eq_none];intro j hj;rw[ha j (List.mem_range.1 hj)];simp
set_option maxRecDepth 100000 in
theorem Bd(nm d:ByteArray)(w:World)(hd:d.size<=10000) :
  Calls Tryz.prog 115 #[.agg #[.string nm,.string d]] w fun e w'=>∃h',e=.returned (.slice h'.ao (fR nm d).length h'.cap)/\aA w' h' (ge (fR nm d))/\ab [] w w'/\∀k,h'.blk=some k->w.heap.size<k:=by
 have S0:Hid (vp w (w.alloc (.cells #[.string nm,.string d] 68)) nm d ⟨none,0⟩ []):=⟨heap_alloc_new _ _,World.ownsRow_nil _ _ _ _,(by intro k hk;cases hk),(ab.refl [] _).alloc _⟩;obtain⟨i0,hi,hz0,hz1,hz2⟩:=info_parts BB;go_enter Tryz.func115,Tryz.ntmps115;go_wp2
 go_loopg [3,4,5] d.size (fun g o f i wr=>∃(k:Nat) (h:Hd),k<=d.size/\g=d.size-k/\o=.slice h.ao (h9 nm d k).length h.cap/\f=.int .i64 (cJ d k)/\i=.int .i64 k/\Hid (∀j,j<k->oA (aF d j)=false)/\Hid (vp w wr nm d h (h9 nm d k)))
 case atStart=>exact⟨0,⟨none,0⟩,by omega,rfl,rfl,rfl,rfl,(fun j hj=>by omega),S0⟩
 case round =>
  obtain⟨k,h,hk,hg,rfl,rfl,rfl,HB,HW⟩:=hrel;have c0:wr.cell? ⟨w.heap.size,0,none⟩=some (.string nm):=by rw[aa HW.out.f];rfl
  have c1:wr.cell? ⟨w.heap.size,1,none⟩=some (.string d):=by rw[aa HW.out.f];rfl
  have y0:=ae HW.out.f;have hwl:=t9 nm d k;have hfr:=mu d k
  by_cases hlt:k<d.size
  ·have hki:(k:Int)<(d.size:Int):=by omega
   have HBy:=(show Hid _ from bI d k hlt)
   cases hb:cC (d[k].toNat:Int)
   ·cases hp:eN (d[k].toNat:Int)
    ·have HF:Hid (iE d=some k):=Kp hlt (by rw[HBy.out];unfold oA;rw[hb,hp];rfl) HB.out
     go_upto_region 10 with (first | (go_at_call 78;refine(jN _ _).mono ?_;rintro e w1 ⟨rfl,hw1⟩;rw[hw1];clear hw1) | (go_at_call 164;refine(pB _ _).mono ?_;rintro e w1 ⟨rfl,hw1⟩;rw[hw1];clear hw1) | (go_at_call 165;refine(pC nm d k _ (by omega) (by omega)).mono ?_;rintro e w1 ⟨rfl,k1⟩))
     obtain⟨W,HWW⟩:∃W,Hid (w1.alloc (.cells #[.string nm,.int .i64 (aL d k),.int .i64 (aW d k)] 36)=W):=⟨_,rfl⟩
     obtain⟨kW,y1,p0,p1,p2⟩:=uj HWW;rw[HWW.out];have HS:=(show Hid _ from HW.out.still (k1.trans kW));have hO:=HS.out.own;have HE:Hid (fR nm d=h9 nm d k++[kL nm d ⟨#[]⟩ 1 k]):=by show _=_;unfold fR;rw[HF.out]
     clear kW k1 c0 c1 HWW;go_wp2_with (at_builtin;refine bP W rfl (.tmp 36) (.tmp 39) rfl h (h9 nm d k) (kL nm d ⟨#[]⟩ 1 k) rfl hO (by omega) rfl ?_;intro h5 w5 hw5 hg5;have HN:=(show Hid _ from HS.out.grew hg5 hw5);clear hw5 hg5);go_ret;exact⟨h5,by rw[HE.out];simp,by rw[HE.out];exact HN.out.own,HN.out.kept,HN.out.far⟩
    ·have HN:Hid (∀j,j<k+1->oA (aF d j)=false):=fun j hj=>by
      by_cases e:j=k
      ·subst e;rw[HBy.out];unfold oA;rw[hp];rfl
      ·exact HB.out j (by omega)
     have HO:Hid (h9 nm d (k+1)=h9 nm d k/\cJ d (k+1)=cJ d k):=by
      constructor
      ·rw[h9,if_neg (by rw[HBy.out,hb];simp)]
      ·rw[cJ,if_neg (by rw[HBy.out,hb];simp)]
     go_wp2_with (first | (go_at_call 78;refine(jN _ _).mono ?_;rintro e w1 ⟨rfl,hw1⟩;rw[hw1];clear hw1) | (go_at_call 164;refine(pB _ _).mono ?_;rintro e w1 ⟨rfl,hw1⟩;rw[hw1];clear hw1))
     go_roundg (d.size-(k+1))
     case measure=>omega
     case rel=>exact⟨k+1,h,by omega,rfl,by rw[HO.out.1],by rw[HO.out.2],by go_num,HN,by rw[HO.out.1];exact HW⟩
   ·have HN:Hid (∀j,j<k+1->oA (aF d j)=false):=fun j hj=>by
     by_cases e:j=k
     ·subst e;rw[HBy.out];unfold oA;rw[hb];simp
     ·exact HB.out j (by omega)
    have HO:Hid (h9 nm d (k+1)=g7 nm d (cJ d k) k (h9 nm d k)/\cJ d (k+1)=k+1):=by
     constructor
     ·rw[h9,if_pos (by rw[HBy.out,hb])]
     ·rw[cJ,if_pos (by rw[HBy.out,hb])]
    have HWD:Hid (∀wx,vp w wx nm d h (h9 nm d k)->Calls Tryz.prog 166 #[.agg #[.string nm,.string d],.int .i64 (cJ d k),.int .i64 k,.slice h.ao (h9 nm d k).length h.cap] wx fun e w'=>∃h',e=.returned (.slice h'.ao (g7 nm d (cJ d k) k (h9 nm d k)).length h'.cap)/\aA w' h' (ge (g7 nm d (cJ d k) k (h9 nm d k)))/\bh wx w' h h'):=fun wx hx=>vx nm d _ k _ h wx hfr (by omega) (by omega) (by omega) hx.own
    cases hp:eN (d[k].toNat:Int)
    all_goals
     go_wp2_with (first | (go_at_call 78;refine(jN _ _).mono ?_;rintro e w1 ⟨rfl,hw1⟩;rw[hw1];clear hw1) | (go_at_call 164;refine(pB _ _).mono ?_;rintro e w1 ⟨rfl,hw1⟩;rw[hw1];clear hw1) | (go_at_call 166;refine(HWD.out _ HW.out).mono ?_;rintro e w2 ⟨h2,rfl,o2,g2⟩;have HN2:=(show Hid _ from HW.out.grew g2 o2);clear g2 o2))
     go_roundg (d.size-(k+1))
     case measure=>omega
     case rel=>exact⟨k+1,h2,by omega,rfl,by rw[HO.out.1],by rw[HO.out.2];go_num,by go_num,HN,by rw[HO.out.1];exact HN2⟩
  ·have e:k=d.size:=by omega
   subst e;have HF:Hid (iE d=none):=GZ HB.out;have HE:Hid (fR nm d=g7 nm d (cJ d d.size) d.size (h9 nm d d.size)++[kL nm d ⟨#[]⟩ 0 d.size]):=by show _=_;unfold fR;rw[HF.out]
   have hwl2:=rj nm d (cJ d d.size) d.size (h9 nm d d.size);obtain⟨L2,HL2⟩:∃L2,Hid (g7 nm d (cJ d d.size) d.size (h9 nm d d.size)=L2):=⟨_,rfl⟩
   have HWD:Hid (∀wx,vp w wx nm d h (h9 nm d d.size)->Calls Tryz.prog 166 #[.agg #[.string nm,.string d],.int .i64 (cJ d d.size),.int .i64 d.size,.slice h.ao (h9 nm d d.size).length h.cap] wx fun e w'=>∃h',e=.returned (.slice h'.ao (g7 nm d (cJ d d.size) d.size (h9 nm d d.size)).length h'.cap)/\aA w' h' (ge (g7 nm d (cJ d d.size) d.size (h9 nm d d.size)))/\bh wx w' h h'):=fun wx hx=>vx nm d _ d.size _ h wx hfr (by omega) (by omega) (by omega) hx.own
   rw[HL2.out]at HWD hwl2 HE
   go_upto_region 15 with (go_at_call 166;refine(HWD.out _ HW.out).mono ?_;rintro e w2 ⟨h2,rfl,o2,g2⟩;have HN2:=(show Hid _ from HW.out.grew g2 o2);clear g2 o2)
   clear c0 c1 y0;have c0:w2.cell? ⟨w.heap.size,0,none⟩=some (.string nm):=by rw[aa HN2.out.f];rfl
   have c1:w2.cell? ⟨w.heap.size,1,none⟩=some (.string d):=by rw[aa HN2.out.f];rfl
   have y0:=ae HN2.out.f
   go_upto_region 16 with (go_at_call 165;refine(pC nm d d.size _ (by omega) (by omega)).mono ?_;rintro e w1 ⟨rfl,k1⟩)
   obtain⟨W,HWW⟩:∃W,Hid (w1.alloc (.cells #[.string nm,.int .i64 (aL d d.size),.int .i64 (aW d d.size)] 36)=W):=⟨_,rfl⟩
   obtain⟨kW,y1,p0,p1,p2⟩:=uj HWW;rw[HWW.out];have HS:=(show Hid _ from HN2.out.still (k1.trans kW));have hO:=HS.out.own;clear kW k1 c0 c1 HWW;go_wp2_with (at_builtin;refine bP W rfl (.tmp 61) (.tmp 64) rfl h2 L2 (kL nm d ⟨#[]⟩ 0 d.size) rfl hO (by omega) rfl ?_;intro h5 w5 hw5 hg5;have HN:=(show Hid _ from HS.out.grew hg5 hw5);clear hw5 hg5);go_ret;exact⟨h5,by rw[HE.out];simp,by rw[HE.out];exact HN.out.own,HN.out.kept,HN.out.far⟩
end Go.Proofs.YtpddjjabfbfifaaGreat
