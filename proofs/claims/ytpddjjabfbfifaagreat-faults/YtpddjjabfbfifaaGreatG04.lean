import Derived.Laws.CopyRow
import Derived.Laws.MakeOwn
import Derived.Deep.RegionLaw
import Derived.Test.YtpddjjabfbfifaaGreatG03
namespace Go.Proofs.YtpddjjabfbfifaaGreat
open Go.RowKit
set_option maxHeartbeats 40000000
structure Hd where
 ao:Option Addr
 cap:Nat
def Hd.blk(h:Hd):Option Nat:=h.ao.map (·.block)
structure dK where
 e:TypeId
 size:Nat
 n:Nat
 xs:List Value
def aA(w:World)(h:Hd)(r:dK):Prop:=w.ownsRow 0 r.e r.size (.slice h.ao r.n h.cap) r.n r.xs
theorem xw(h:Hd)(n:Nat):(Value.slice h.ao n h.cap).ownBlock=h.blk:=by
 unfold Hd.blk;cases h.ao <;> rfl
theorem aA.lt{w:World}{h:Hd}{r:dK}(o:aA w h r){k:Nat}(hk:h.blk=some k):k<w.heap.size :=
 (World.ownsRow.lt (h:=o) k (by rw[xw];exact hk)).2
theorem aA.moved{w w':World}{h:Hd}{r:dK}(o:aA w h r)(hw:∀k,h.blk=some k->w'.heap[k]?=w.heap[k]?):aA w' h r:=by
 refine⟨o.1,?_⟩
 rcases o.2 with hn | ⟨g,cap,cur,hv,hb,hh,h1,h2,h3,h4⟩
 ·exact Or.inl hn
 ·refine Or.inr ⟨g,cap,cur,hv,hb,?_,h1,h2,h3,h4⟩
  rw[hw g (by unfold Hd.blk;injection hv with hv;rw[hv];rfl)];exact hh
theorem aA.ways{w:World}{h:Hd}{r:dK}(o:aA w h r) :
  (h=⟨none,0⟩/\r.n=0/\r.xs=[])∨∃g cur,h.ao=some ⟨g,0,none⟩/\w.heap[g]?=some (.cells cur r.e (0,0))/\r.n<=h.cap/\h.cap<=maxLen/\cur.size=h.cap*r.size/\cur.toList.take (r.n*r.size)=r.xs:=by
 rcases o.2 with ⟨hv,hn⟩ | ⟨g,cap,cur,hv,hb,hh,h1,h2,h3,h4⟩
 ·left
  injection hv with a1 a2 a3
  refine⟨by cases h;simp_all,hn,List.eq_nil_of_length_eq_zero (by rw[o.1,hn];simp)⟩
 ·right
  injection hv with a1 a2 a3
  subst a3;exact⟨g,cur,a1,hh,h1,h2,h3,h4⟩
theorem bK(g j:Nat):(⟨g,0,none⟩:Addr).add j=⟨g,j,none⟩:=by
 simp only[Addr.add]
 split
 ·next h=>subst h;rfl
 ·simp
theorem aA.cell{w:World}{h:Hd}{r:dK}(o:aA w h r){g:Nat}(hg:h.ao=some ⟨g,0,none⟩)(j:Nat)(u:Value)(hj:r.xs[j]?=some u):w.cell? ⟨g,j,none⟩=some u:=by
 have:=o.cells (g:=g) (by rw[xw];unfold Hd.blk;rw[hg];rfl) j u hj;rw[bK]at this;exact this
theorem aM{P:Program}(w:World){ops:Array Oper}{rest:List Oper}{o:Oper}{a:Act}{Q:Exit->Act->World->Prop}
  (hg:o.guard=none) (s x:Operand) (t:TypeId) (hop:o.op=Op.call { callee:=Callee.builtin Builtin.append,args:=#[s,x],argTypes:=#[t,t] })
  (i:TypeInfo) (z:Value) (bytes:Nat) (h:Hd) (r:dK) (h1:P.underlying t=some (.slice r.e)) (h2:P.info? r.e=some i) (h3:i.zero=some z) (h4:i.size=r.size) (h5:i.bytes=bytes) (h6:z.cells.size=r.size) (h7:0<r.size)
  (hs:a.eval s=.slice h.ao r.n h.cap) (hown:aA w h r)
  (ad:Addr) (m c:Nat) (news:List Value) (hx:a.eval x=.slice (some ad) m c) (hn:news.length=m*r.size) (hc:∀j u,news[j]?=some u->w.cell? (ad.add j)=some u) (h1c:∀u∈news,u.oneCell'=true)
  (hm:0<m) (b1:r.n+m<=maxLen) (b2:(r.n+m)*bytes<=140737488355328)
  (hK:∀g cap' w',aA w' ⟨some ⟨g,0,none⟩,cap'⟩ ⟨r.e,r.size,r.n+m,r.xs++news⟩->w.grownBy w' h.blk->(h.blk=some g∨w.heap.size<=g)->wpList P ops Q rest (a.put o.dst (.slice (some ⟨g,0,none⟩) (r.n+m) cap')) w') :
  wpList P ops Q (o :: rest) a w:=by
 rcases hown.ways with ⟨e1,e2,e3⟩ | ⟨g,cur,e1,e2,e3,e4,e5,e6⟩
 ·refine wpList_append_grows w hg s x t hop r.e i z r.size bytes h1 h2 h3 h4 h5 h6 h7 none 0 0 [] (by rw[hs,e1,e2]) (fun _=>⟨rfl,rfl⟩) (by simp) (by intro b hb;cases hb) ad m c news hx hn hc h1c (by omega) (by omega) (by rw[e2]at b2;exact b2) ?_
  intro v' w' hw hgr
  rcases hw.2 with ⟨_,q⟩ | ⟨g,cap',cur,q1,q2,q3,q4,q5,q6,q7⟩
  ·omega
  ·have:=hK g cap' w' ⟨by have:=hw.1;simpa [e3,e2] using this,Or.inr ⟨g,cap',cur,by simp,Nat.zero_le _,q3,by simpa [e2] using q4,q5,q6,by simpa [e2,e3] using q7⟩⟩ (by rw[e1];exact hgr) (Or.inr q2)
   rw[q1];simpa [e2] using this
 ·by_cases hf:r.n+m<=h.cap
  ·refine wpList_append_fits w hg s x t hop 0 r.e i r.size h1 h2 h4 g r.n h.cap r.xs (by rw[hs,e1]) (by have:=hown;unfold aA at this;rw[e1]at this;exact this) ad m c news hx hn hc h1c hf ?_
   intro w' hw hgr;exact hK g h.cap w' hw (by unfold Hd.blk;rw[e1];exact hgr) (Or.inl (by unfold Hd.blk;rw[e1];rfl))
  ·refine wpList_append_grows w hg s x t hop r.e i z r.size bytes h1 h2 h3 h4 h5 h6 h7 (some ⟨g,0,none⟩) r.n h.cap r.xs (by rw[hs,e1]) (by intro hh;cases hh) hown.1 (by intro b hb j u hj;cases hb;rw[bK];exact hown.cell e1 j u hj) ad m c news hx hn hc h1c (by omega) b1 b2 ?_
   intro v' w' hw hgr
   rcases hw.2 with ⟨_,q⟩ | ⟨g',cap',cur',q1,q2,q3,q4,q5,q6,q7⟩
   ·omega
   ·have:=hK g' cap' w' ⟨hw.1,Or.inr ⟨g',cap',cur',rfl,Nat.zero_le _,q3,q4,q5,q6,q7⟩⟩ ⟨hgr.os,hgr.tape,hgr.output,hgr.size,fun k hk _=>hgr.block k hk (by simp)⟩ (Or.inr q2)
    rw[q1];exact this
theorem ve{P:Program}(w:World)(dT sT ty elem:TypeId)(g cap size:Nat)(h:Hd)(r:dK)(cur:Array Value)(t:TypeId)
  (hu:P.underlying dT=some (.slice elem)) (hs:(P.info? elem).map (·.size)=some size) (hr:r.size=size) (hg:w.heap[g]?=some (.cells cur t (0,0))) (ho:aA w h r) (hsz:cur.size=r.n*size) (h1:∀v∈r.xs,v.oneCell'=true) :
  (Builtin.copy_ #[dT,sT] ty #[.slice (some ⟨g,0,none⟩) r.n cap,.slice h.ao r.n h.cap]).run P w=.ok (goInt r.n) (w.setRow g r.xs.toArray):=by
 have hl:r.xs.length=r.n*size:=by have:=ho.1;rw[hr]at this;exact this
 have hst:=run_storeCells_at P g 0 t r.xs 0 cur w hg (by simp;omega) h1
 have e0:(cur.toList.take (0+0)++r.xs++cur.toList.drop (0+0+r.xs.length))=r.xs:=by
  simp;omega
 rw[e0]at hst
 have hfc:(Builtin.firstCells size r.n (.slice h.ao r.n h.cap)).run P w=.ok r.xs.toArray w:=by
  rcases ho.ways with ⟨e1,e2,e3⟩ | ⟨g',cur',e1,_⟩
  ·rw[e1,e3];exact run_firstCells_none w _ _ _ _
  ·rw[e1];exact run_firstCells_some w size r.n ⟨g',0,none⟩ r.n h.cap r.xs hl (fun j v hj=>by rw[bK];exact ho.cell e1 j v hj)
 cases hq:P.info? elem with
 | none=>simp[hq]at hs
 | some i =>
  have hi:i.size=size:=by simpa [hq] using hs
  simp[Builtin.copy_,run_underlying hu,Builtin.lenOf,sizeOf,typeInfo,hq,hi,hfc,hst]
theorem rI{S:List Nat}{a w:World}(h:ab S a w){g:Nat}(hp:g∈S∨a.heap.size<=g)(c:Array Value):ab S a (w.setRow g c) :=
 ⟨h.os,h.tape,h.output,by have:=h.size;simp[World.setRow];omega,fun k hk hs=>by
  rw[setRow_other w g k c (by rintro rfl;exact hp.elim hs (fun hp=>by omega))];exact h.block k hk hs⟩
theorem qC{P:Program}(w:World)(dT sT ty:TypeId)(g cap:Nat)(h:Hd)(r:dK)(cur:Array Value)(t:TypeId)
  (hu:P.underlying dT=some (.slice r.e)) (hs:(P.info? r.e).map (·.size)=some r.size) (hg:w.heap[g]?=some (.cells cur t (0,0))) (ho:aA w h r) (hsz:cur.size=r.n*r.size) (h1:∀v∈r.xs,v.oneCell'=true) :
  ∃w',(Builtin.copy_ #[dT,sT] ty #[.slice (some ⟨g,0,none⟩) r.n cap,.slice h.ao r.n h.cap]).run P w=.ok (goInt r.n) w'/\w'.heap[g]?=some (.cells r.xs.toArray t (0,0))/\ab [g] w w'/\w'.heap.size=w.heap.size :=
 ⟨_,ve (P:=P) w dT sT ty r.e g cap r.size h r cur t hu hs rfl hg ho hsz h1,setRow_heap w g _ _ t _ hg,rI (ab.refl _ _) (Or.inl (by simp)) _,by simp[World.setRow]⟩
theorem aA.made{w:World}{g:Nat}{r:dK}(hg:w.heap[g]?=some (.cells r.xs.toArray r.e (0,0)))(hl:r.xs.length=r.n*r.size)(hn:r.n<=maxLen):aA w ⟨some ⟨g,0,none⟩,r.n⟩ r :=
 ⟨hl,Or.inr ⟨g,r.n,r.xs.toArray,rfl,Nat.zero_le _,hg,Nat.le_refl _,hn,by simpa using hl,by simp[<-hl]⟩⟩
theorem ny{P:Program}(w:World)(t ty:TypeId)(i:TypeInfo)(z:Value)(bytes:Nat)(h:Hd)(r:dK)(h1:P.underlying t=some (.slice r.e))(h2:P.info? r.e=some i)(h3:i.zero=some z)(h4:i.size=r.size)(h5:i.bytes=bytes)(h6:z.cells.size=r.size)(h7:0<r.size)
  (hown:aA w h r) (ad:Addr) (m c:Nat) (news:List Value) (hn:news.length=m*r.size) (hc:∀j u,news[j]?=some u->w.cell? (ad.add j)=some u) (h1c:∀u∈news,u.oneCell'=true)
  (hm:0<m) (b1:r.n+m<=maxLen) (b2:(r.n+m)*bytes<=140737488355328) :
  ∃g cap' w',(Builtin.append_ #[t,t] ty #[.slice h.ao r.n h.cap,.slice (some ad) m c]).run P w=.ok (.slice (some ⟨g,0,none⟩) (r.n+m) cap') w' /\
   aA w' ⟨some ⟨g,0,none⟩,cap'⟩ ⟨r.e,r.size,r.n+m,r.xs++news⟩/\w.grownBy w' h.blk/\(h.blk=some g∨w.heap.size<=g):=by
 rcases hown.ways with ⟨e1,e2,e3⟩ | ⟨g,cur,e1,e2,e3,e4,e5,e6⟩
 ·obtain⟨v',w',hrun,hw,hgr,_⟩:=run_append_own (P:=P) w w.heap.size t ty r.e i z r.size bytes h1 h2 h3 h4 h5 h6 h7 (.slice none 0 0) 0 [] (World.ownsRow_nil w _ r.e r.size) ad m c news hn hc h1c (by omega) (by rw[e2]at b2;exact b2) (Nat.le_refl _)
  rcases hw.2 with ⟨_,q⟩ | ⟨g,cap',cur,q1,q2,q3,q4,q5,q6,q7⟩
  ·omega
  ·refine⟨g,cap',w',?_,⟨by have:=hw.1;simpa [e3,e2] using this,Or.inr ⟨g,cap',cur,by simp,Nat.zero_le _,q3,by simpa [e2] using q4,q5,q6,by simpa [e2,e3] using q7⟩⟩,?_,Or.inr q2⟩
   ·rw[e1,e2,hrun,q1]
   ·rw[e1];exact hgr
 ·by_cases hf:r.n+m<=h.cap
  ·obtain⟨w',hrun,hw,hgr⟩:=run_append_fits (P:=P) w 0 t ty r.e i r.size h1 h2 h4 g r.n h.cap r.xs (by have:=hown;unfold aA at this;rw[e1]at this;exact this) ad m c news hn hc h1c hf
   exact⟨g,h.cap,w',by rw[e1,hrun],hw,by unfold Hd.blk;rw[e1];exact hgr,Or.inl (by unfold Hd.blk;rw[e1];rfl)⟩
  ·obtain⟨v',w',hrun,hw,hgr⟩:=run_append_arg_grows (P:=P) w t ty r.e i z r.size bytes h1 h2 h3 h4 h5 h6 h7 ⟨g,0,none⟩ r.n h.cap r.xs hown.1 (by intro j u hj;rw[bK];exact hown.cell e1 j u hj) ad m c news hn hc (by omega) b1 b2
   rcases hw.2 with ⟨_,q⟩ | ⟨g',cap',cur',q1,q2,q3,q4,q5,q6,q7⟩
   ·omega
   ·exact⟨g',cap',w',by rw[e1,hrun,q1],⟨hw.1,Or.inr ⟨g',cap',cur',rfl,Nat.zero_le _,q3,q4,q5,q6,q7⟩⟩,⟨hgr.os,hgr.tape,hgr.output,hgr.size,fun k hk _=>hgr.block k hk (by simp)⟩,Or.inr q2⟩
theorem cd{P:Program}{ops:Array Oper}{o:Oper}{a:Act}{w:World}{K:Act->World->Prop}{Q:Exit->Act->World->Prop}{E:Prop}
  (hg:o.guard=none) (s x:Operand) (t:TypeId) (hop:o.op=Op.call { callee:=Callee.builtin Builtin.append,args:=#[s,x],argTypes:=#[t,t] })
  (i:TypeInfo) (z:Value) (bytes:Nat) (h:Hd) (r:dK) (h1:P.underlying t=some (.slice r.e)) (h2:P.info? r.e=some i) (h3:i.zero=some z) (h4:i.size=r.size) (h5:i.bytes=bytes) (h6:z.cells.size=r.size) (h7:0<r.size)
  (hs:a.eval s=.slice h.ao r.n h.cap) (hown:aA w h r)
  (ad:Addr) (m c:Nat) (news:List Value) (hx:a.eval x=.slice (some ad) m c) (hn:news.length=m*r.size) (hc:∀j u,news[j]?=some u->w.cell? (ad.add j)=some u) (h1c:∀u∈news,u.oneCell'=true)
  (hm:0<m) (b1:r.n+m<=maxLen) (b2:(r.n+m)*bytes<=140737488355328)
  (hK:∀g cap' w',aA w' ⟨some ⟨g,0,none⟩,cap'⟩ ⟨r.e,r.size,r.n+m,r.xs++news⟩->w.grownBy w' h.blk->(h.blk=some g∨w.heap.size<=g)->K (a.put o.dst (.slice (some ⟨g,0,none⟩) (r.n+m) cap')) w') :
  if Region.wanted o (yielded ops a.tmps)=true then Oper.wp P o a w K Q else E:=by
 have hw:Region.wanted o (yielded ops a.tmps)=true:=by simp[Region.wanted,hg]
 rw[if_pos hw];obtain⟨g,cap',w',hrun,r1,r2,r3⟩:=ny (P:=P) w t o.type i z bytes h r h1 h2 h3 h4 h5 h6 h7 hown ad m c news hn hc h1c hm b1 b2;unfold Oper.wp;simp[execOp,hop,resolve,invoke,builtin,hs,hx,hrun,Result.andThen];exact hK g cap' w' r1 r2 r3
theorem dn{P:Program}(w:World)(t e:TypeId)(i:TypeInfo)(z:Value)(ht:P.underlying t=some (.slice e))(hi:P.info? e=some i)(hz:i.zero=some z)(n size:Nat)(hsz:i.size=size)(hb:i.bytes*n<=281474976710656)(hn:n<=1073741824) :
  (Instr.makeSlice t (.int .i64 n) (.int .i64 n)).run P w=.ok (.slice (some ⟨w.heap.size,0,none⟩) n n) (w.alloc (.cells (madeCells z.cells (n*size)) e)):=by
 have:=run_make (P:=P) w t e i z ht hi hz .i64 .i64 n n (by omega) (Int.le_refl _) (by have:=Int.ofNat_le.2 hb;rw[Int.natCast_mul]at this;exact this) (by omega);simpa [hsz] using this
structure Pl where
  file:ByteArray
  line:Int
  col:Int
structure St where
  kind:Int
  label:ByteArray
  symbols:List ByteArray
  proof:List (ByteArray×Pl)
  fin:Pl
  til:Nat
structure Db where
  labels:List ByteArray
  constants:List ByteArray
  variables:List ByteArray
  active:List ByteArray
  typed:List ByteArray
  blocks:List (Nat×Nat)
  sts:List St
  rbl:List Nat
  kind:Int
  label:ByteArray
  symbols:List ByteArray
  inProof:Bool
  proof:List (ByteArray×Pl)
def dN(l:List ByteArray):List Value:=l.map Value.string
def nU(l:List (Nat×Nat)):List Value:=l.flatMap (fun p=>[.int .i64 p.1,.int .i64 p.2])
def iZ(l:List Nat):List Value:=l.map (fun(n:Nat)=>.int .i64 n)
def oP(p:ByteArray×Pl):List Value:=[.string p.1,.string p.2.file,.int .i64 p.2.line,.int .i64 p.2.col]
def lP(l:List (ByteArray×Pl)):List Value:=l.flatMap oP
def Fe(s:St)(a b:Hd):List Value :=
  [.int .i64 s.kind,.string s.label,.slice a.ao s.symbols.length a.cap,.slice b.ao s.proof.length b.cap,.string s.fin.file,.int .i64 s.fin.line,.int .i64 s.fin.col,.int .i64 s.til]
def kQ(l:List St)(H:Nat->Hd):List Value:=l.zipIdx.flatMap (fun p=>Fe p.1 (H (10+2*p.2)) (H (11+2*p.2)))
def aD(l:List ByteArray):dK:=⟨9,1,l.length,dN l⟩
def l4(l:List (Nat×Nat)):dK:=⟨337,2,l.length,nU l⟩
def bq(l:List Nat):dK:=⟨3,1,l.length,iZ l⟩
def fA(l:List (ByteArray×Pl)):dK:=⟨229,4,l.length,lP l⟩
def gB(l:List St)(H:Nat->Hd):dK:=⟨158,8,l.length,kQ l H⟩
def fQ(l:List St)(i:Nat):List ByteArray:=match l[i]? with | some s=>s.symbols | none=>[]
def qs(l:List St)(i:Nat):List (ByteArray×Pl):=match l[i]? with | some s=>s.proof | none=>[]
def inner(l:List St)(n:Nat):dK:=if n % 2=0 then aD (fQ l (n / 2)) else fA (qs l (n / 2))
def aP(d:Db)(H:Nat->Hd):Nat->dK
  | 0=>aD d.labels
  | 1=>aD d.constants
  | 2=>aD d.variables
  | 3=>aD d.active
  | 4=>aD d.typed
  | 5=>l4 d.blocks
  | 6=>gB d.sts H
  | 7=>bq d.rbl
  | 8=>aD d.symbols
  | 9=>fA d.proof
  | n+10=>inner d.sts n
def bU(d:Db)(H:Nat->Hd):List Value :=
  [.slice (H 0).ao d.labels.length (H 0).cap,.slice (H 1).ao d.constants.length (H 1).cap,.slice (H 2).ao d.variables.length (H 2).cap,.slice (H 3).ao d.active.length (H 3).cap,
   .slice (H 4).ao d.typed.length (H 4).cap,.slice (H 5).ao d.blocks.length (H 5).cap,.slice (H 6).ao d.sts.length (H 6).cap,.slice (H 7).ao d.rbl.length (H 7).cap,
   .int .i64 d.kind,.string d.label,.slice (H 8).ao d.symbols.length (H 8).cap,.bool d.inProof,.slice (H 9).ao d.proof.length (H 9).cap]
def fI{α:Type}(H:Nat->α)(i:Nat)(h:α):Nat->α:=fun j=>if j=i then h else H j
theorem cG{α:Type}(H:Nat->α)(i:Nat)(h:α):fI H i h i=h:=by simp[fI]
theorem bL{α:Type}(H:Nat->α)(i j:Nat)(h:α)(hj:j≠i):fI H i h j=H j:=by simp[fI,hj]
theorem Gg{α:Type}(H:Nat->α)(i:Nat):fI H i (H i)=H:=by funext j;unfold fI;split <;> simp_all
theorem te(l:List St)(H H':Nat->Hd)(h:∀j,10<=j->H' j=H j):kQ l H'=kQ l H:=by
  unfold kQ;congr 1;funext p;rw[h _ (by omega),h _ (by omega)]
theorem Hw(d:Db)(H:Nat->Hd)(i:Nat)(h:Hd)(hi:i<10)(j:Nat):aP d (fI H i h) j=aP d H j:=by
  have e:kQ d.sts (fI H i h)=kQ d.sts H:=te _ _ _ (fun j hj=>bL _ _ _ _ (by omega));unfold aP
  split <;> first | rfl | (simp only[gB,e])
def fk(H:Nat->Hd)(k:Nat):Prop:=∃i,(H i).blk=some k
structure dX(P:Nat->Prop)(w w':World):Prop where
  os:w'.os=w.os
  tape:w'.tape=w.tape
  output:w'.output=w.output
  size:w.heap.size<=w'.heap.size
  block:∀k,k<w.heap.size->¬P k->w'.heap[k]?=w.heap[k]?
theorem dX.refl(P:Nat->Prop)(w:World):dX P w w:=⟨rfl,rfl,rfl,Nat.le_refl _,fun _ _ _=>rfl⟩
theorem ab.toP{S:List Nat}{w w':World}(h:ab S w w'){P:Nat->Prop}(hP:∀k,k∈S->k<w.heap.size->P k):dX P w w' :=
  ⟨h.os,h.tape,h.output,h.size,fun k hk hn=>h.block k hk (fun hm=>hn (hP k hm hk))⟩
theorem dX.get{P:Nat->Prop}{w w':World}(h:dX P w w'){k:Nat}{o:Obj}(ho:w.heap[k]?=some o)(hk:¬P k):w'.heap[k]?=some o:=(h.block k (ae ho) hk).trans ho
theorem dX.still{P:Nat->Prop}{a b c:World}(h:dX P a b)(k:ab [] b c):dX P a c :=
  ⟨k.os.trans h.os,k.tape.trans h.tape,k.output.trans h.output,Nat.le_trans h.size k.size,fun i hi hn=>(k.block i (Nat.lt_of_lt_of_le hi h.size) (by simp)).trans (h.block i hi hn)⟩
theorem dX.setCell{P:Nat->Prop}{a w:World}(h:dX P a w){p:Addr}(hp:P p.block∨a.heap.size<=p.block)(u:Value):dX P a (w.setCell p u) :=
  ⟨h.os,h.tape,h.output,by have:=h.size;simp[World.setCell];omega,fun k hk hs=>by
    rw[Below.heap_setCell _ _ _ _ (by rintro rfl;exact hp.elim hs (fun hp=>by omega))];exact h.block k hk hs⟩
structure aN(w:World)(b t:Nat)(pre post:List Value)(d:Db)(H:Nat->Hd):Prop where
  blk:w.heap[b]?=some (.cells (pre++(bU d H++post)).toArray t (0,0))
  own:∀i,aA w (H i) (aP d H i)
  apart:∀i j,i≠j->(H i).blk=none∨(H i).blk≠(H j).blk
  off:∀i,(H i).blk≠some b
theorem aN.lt{w:World}{b t:Nat}{pre post:List Value}{d:Db}{H:Nat->Hd}(h:aN w b t pre post d H):b<w.heap.size:=ae h.blk
theorem aN.free{w:World}{b t:Nat}{pre post:List Value}{d:Db}{H:Nat->Hd}(h:aN w b t pre post d H)(i:Nat):w.frozen? ⟨b,i,none⟩=false:=ak h.blk i
theorem aN.inlt{w:World}{b t:Nat}{pre post:List Value}{d:Db}{H:Nat->Hd}(h:aN w b t pre post d H){k:Nat}(hk:fk H k):k<w.heap.size:=by
  obtain⟨i,hi⟩:=hk;exact(h.own i).lt hi
theorem aN.keptP{w w':World}{b t:Nat}{pre post:List Value}{d:Db}{H:Nat->Hd}{P:Nat->Prop}(h:aN w b t pre post d H)(hk:dX P w w')(hb:¬P b)(hs:∀k,fk H k->¬P k):aN w' b t pre post d H :=
  ⟨hk.get h.blk hb,fun i=>(h.own i).moved (fun k hk'=>hk.block k ((h.own i).lt hk') (hs k ⟨i,hk'⟩)),h.apart,h.off⟩
theorem aN.kept{w w':World}{b t:Nat}{pre post:List Value}{d:Db}{H:Nat->Hd}{S:List Nat}(h:aN w b t pre post d H)(hk:ab S w w')(hb:b∉S)(hs:∀k,fk H k->k∉S):aN w' b t pre post d H :=
  h.keptP (hk.toP (P:=(·∈S)) (fun _ hm _=>hm)) hb hs
theorem aN.still{w w':World}{b t:Nat}{pre post:List Value}{d:Db}{H:Nat->Hd}(h:aN w b t pre post d H)(hk:ab [] w w'):aN w' b t pre post d H:=h.kept hk (by simp) (by simp)
theorem xh(pre l post:List Value)(o i:Nat)(ho:pre.length=o)(hi:i<l.length):(pre++(l++post)).toArray[o+i]?=l[i]?:=by
  subst ho;simp[List.getElem?_append_right,List.getElem?_append_left hi]
theorem CL(pre l post:List Value)(o i:Nat)(u:Value)(ho:pre.length=o)(hi:i<l.length):(pre++(l++post)).set (o+i) u=pre++(l.set i u++post):=by
  subst ho;rw[List.set_append_right _ _ (by omega),show pre.length+i-pre.length=i by omega,List.set_append_left _ _ hi]
theorem aN.cellAt{w:World}{b t:Nat}{pre post:List Value}{d:Db}{H:Nat->Hd}(h:aN w b t pre post d H)(o:Nat)(ho:pre.length=o)(i:Nat)(hi:i<13):w.cell? ⟨b,o+i,none⟩=(bU d H)[i]? :=
  (aa h.blk (o+i)).trans (xh pre (bU d H) post o i ho hi)
theorem aN.cells{w:World}{b t:Nat}{pre post:List Value}{d:Db}{H:Nat->Hd}(h:aN w b t pre post d H)(o:Nat)(ho:pre.length=o) :
    w.cell? ⟨b,o,none⟩=some (.slice (H 0).ao d.labels.length (H 0).cap)/\w.cell? ⟨b,o+1,none⟩=some (.slice (H 1).ao d.constants.length (H 1).cap) /\
    w.cell? ⟨b,o+2,none⟩=some (.slice (H 2).ao d.variables.length (H 2).cap)/\w.cell? ⟨b,o+3,none⟩=some (.slice (H 3).ao d.active.length (H 3).cap) /\
    w.cell? ⟨b,o+4,none⟩=some (.slice (H 4).ao d.typed.length (H 4).cap)/\w.cell? ⟨b,o+5,none⟩=some (.slice (H 5).ao d.blocks.length (H 5).cap) /\
    w.cell? ⟨b,o+6,none⟩=some (.slice (H 6).ao d.sts.length (H 6).cap)/\w.cell? ⟨b,o+7,none⟩=some (.slice (H 7).ao d.rbl.length (H 7).cap) /\
    w.cell? ⟨b,o+8,none⟩=some (.int .i64 d.kind)/\w.cell? ⟨b,o+9,none⟩=some (.string d.label)/\w.cell? ⟨b,o+10,none⟩=some (.slice (H 8).ao d.symbols.length (H 8).cap) /\
    w.cell? ⟨b,o+11,none⟩=some (.bool d.inProof)/\w.cell? ⟨b,o+12,none⟩=some (.slice (H 9).ao d.proof.length (H 9).cap):=by
  have m:=h.cellAt o ho;exact⟨m 0 (by omega),m 1 (by omega),m 2 (by omega),m 3 (by omega),m 4 (by omega),m 5 (by omega),m 6 (by omega),m 7 (by omega),m 8 (by omega),m 9 (by omega),m 10 (by omega),m 11 (by omega),m 12 (by omega)⟩
def aw(b:Nat)(w:World)(H:Nat->Hd)(w':World)(H':Nat->Hd):Prop :=
  dX (fun k=>k=b∨fk H k) w w'/\∀k,fk H' k->fk H k∨w.heap.size<=k
theorem aw.refl(b:Nat)(w:World)(H:Nat->Hd):aw b w H w H:=⟨dX.refl _ _,fun _ hk=>Or.inl hk⟩
theorem aw.trans{b:Nat}{w0 w1 w2:World}{H0 H1 H2:Nat->Hd}(a:aw b w0 H0 w1 H1)(c:aw b w1 H1 w2 H2):aw b w0 H0 w2 H2:=by
  refine⟨⟨c.1.os.trans a.1.os,c.1.tape.trans a.1.tape,c.1.output.trans a.1.output,Nat.le_trans a.1.size c.1.size,?_⟩,?_⟩
  · intro k hk hn
    rw[<-a.1.block k hk hn];refine c.1.block k (Nat.lt_of_lt_of_le hk a.1.size) ?_;rintro (e | hm)
    · exact hn (Or.inl e)
    · rcases a.2 k hm with h | h
      · exact hn (Or.inr h)
      · omega
  · intro k hk
    rcases c.2 k hk with h | h
    · exact a.2 k h
    · exact Or.inr (Nat.le_trans a.1.size h)
theorem aw.still{b:Nat}{w0 w1 w2:World}{H0 H1:Nat->Hd}(a:aw b w0 H0 w1 H1)(c:ab [] w1 w2):aw b w0 H0 w2 H1 :=
  a.trans ⟨c.toP (by simp),fun _ hk=>Or.inl hk⟩
theorem aw.first{b:Nat}{w0 w1 w2:World}{H0 H1:Nat->Hd}(c:ab [] w0 w1)(a:aw b w1 H0 w2 H1):aw b w0 H0 w2 H1 :=
  aw.trans ⟨c.toP (by simp),fun _ hk=>Or.inl hk⟩ a
theorem aN.putG{w w1:World}{b t:Nat}{pre post:List Value}{d d':Db}{H:Nat->Hd}(h:aN w b t pre post d H)(o c:Nat)(ho:pre.length=o)(i:Nat)(hi:i<10)(h':Hd)
    (o1:aA w1 h' (aP d' H i)) (hg:w.grownBy w1 (H i).blk)
    (hf:h'.blk=none∨h'.blk=(H i).blk∨∃g,h'.blk=some g/\w.heap.size<=g) (hrow:∀j,j≠i->aA w (H j) (aP d' H j))
    (u:Value) (hc:c<13) (hl:(bU d H).set c u=bU d' (fI H i h')) :
    aN (w1.setCell ⟨b,o+c,none⟩ u) b t pre post d' (fI H i h')/\aw b w H (w1.setCell ⟨b,o+c,none⟩ u) (fI H i h'):=by
  have hb:=h.lt;have hb1:w1.heap[b]?=some (.cells (pre++(bU d H++post)).toArray t (0,0)):=(hg.block b hb (fun e=>h.off i e.symm)).trans h.blk
  have hoff:∀j,(fI H i h' j).blk≠some b:=by
    intro j
    by_cases e:j=i
    · subst e;rw[cG];intro hx
      rcases hf with hf | hf | ⟨g,hf,hg'⟩
      · rw[hf]at hx;cases hx
      · exact h.off j (hf ▸ hx)
      · rw[hf]at hx;cases hx;omega
    · rw[bL _ _ _ _ e];exact h.off j
  refine⟨⟨?_,?_,?_,hoff⟩,⟨hg.os,hg.tape,hg.output,by have:=hg.size;simp[World.setCell];omega,?_⟩,?_⟩
  · rw[ah hb1,List.setIfInBounds_toArray,CL pre (bU d H) post o c u ho hc,hl]
  · intro j
    have q:aA w1 (fI H i h' j) (aP d' (fI H i h') j):=by
      rw[Hw d' H i h' hi j]
      by_cases e:j=i
      · subst e;rw[cG];exact o1
      · rw[bL _ _ _ _ e]
        refine(hrow j e).moved (fun k hk=>hg.block k ((h.own j).lt hk) ?_);intro ek
        rcases h.apart j i e with a | a
        · rw[a]at hk;cases hk
        · exact a (hk.trans ek)
    refine q.moved (fun k hk=>Below.heap_setCell _ _ _ _ ?_);rintro rfl;exact hoff j hk
  · intro j l hne
    by_cases e:j=i
    · subst e
      rw[cG,bL _ _ _ _ (fun e=>hne e.symm)]
      rcases hf with hf | hf | ⟨g,hf,hg'⟩
      · exact Or.inl hf
      · rw[hf];exact h.apart j l hne
      · right;rw[hf];intro ek;have:=(h.own l).lt ek.symm;omega
    · rw[bL _ _ _ _ e]
      by_cases e2:l=i
      · subst e2
        rw[cG]
        rcases hf with hf | hf | ⟨g,hf,hg'⟩
        · rw[hf];cases (H j).blk <;> simp
        · rw[hf];exact h.apart j l hne
        · cases hx:(H j).blk with
          | none=>exact Or.inl rfl
          | some k=>right;rw[hf];intro ek;cases ek;have:=(h.own j).lt hx;omega
      · rw[bL _ _ _ _ e2];exact h.apart j l hne
  · intro k hk hn
    rw[Below.heap_setCell _ _ _ _ (fun e=>hn (Or.inl e))];exact hg.block k hk (fun e=>hn (Or.inr ⟨i,e.symm⟩))
  · intro k hk
    obtain⟨j,e⟩:=hk
    by_cases ei:j=i
    · subst ei
      rw[cG]at e
      rcases hf with hf | hf | ⟨g,hf,hg'⟩
      · rw[hf]at e;cases e
      · exact Or.inl ⟨j,hf ▸ e⟩
      · rw[hf]at e;cases e;exact Or.inr hg'
    · rw[bL _ _ _ _ ei]at e
      exact Or.inl ⟨j,e⟩
theorem aN.put{w w1:World}{b t:Nat}{pre post:List Value}{d d':Db}{H:Nat->Hd}(h:aN w b t pre post d H)(o c:Nat)(ho:pre.length=o)(i:Nat)(hi:i<10)(h':Hd)
    (o1:aA w1 h' (aP d' H i)) (hg:w.grownBy w1 (H i).blk)
    (hf:h'.blk=none∨h'.blk=(H i).blk∨∃g,h'.blk=some g/\w.heap.size<=g) (hrow:∀j,j≠i->aP d' H j=aP d H j)
    (u:Value) (hc:c<13) (hl:(bU d H).set c u=bU d' (fI H i h')) :
    aN (w1.setCell ⟨b,o+c,none⟩ u) b t pre post d' (fI H i h')/\aw b w H (w1.setCell ⟨b,o+c,none⟩ u) (fI H i h') :=
  h.putG o c ho i hi h' o1 hg hf (fun j hj=>by rw[hrow j hj];exact h.own j) u hc hl
theorem aN.set{w:World}{b t:Nat}{pre post:List Value}{d d':Db}{H:Nat->Hd}(h:aN w b t pre post d H)(o c:Nat)(ho:pre.length=o)
    (hrow:∀j,aP d' H j=aP d H j) (u:Value) (hc:c<13) (hl:(bU d H).set c u=bU d' H) :
    aN (w.setCell ⟨b,o+c,none⟩ u) b t pre post d' H/\aw b w H (w.setCell ⟨b,o+c,none⟩ u) H:=by
  refine⟨⟨?_,?_,h.apart,h.off⟩,(dX.refl _ _).setCell (Or.inl (Or.inl rfl)) _,fun _ hk=>Or.inl hk⟩
  · rw[ah h.blk,List.setIfInBounds_toArray,CL pre (bU d H) post o c u ho hc,hl]
  · intro j
    rw[hrow j];refine(h.own j).moved (fun k hk=>Below.heap_setCell _ _ _ _ ?_);rintro rfl;exact h.off j hk
theorem aN.app{w w1:World}{b t:Nat}{pre post:List Value}{d d':Db}{H:Nat->Hd}(h:aN w b t pre post d H)(o c:Nat)(ho:pre.length=o)(i:Nat)(hi:i<10)(g cap' m:Nat)(r:dK)
    (hw1:aA w1 ⟨some ⟨g,0,none⟩,cap'⟩ r) (hr:r=aP d' H i) (hgr:w.grownBy w1 (H i).blk) (hfresh:(H i).blk=some g∨w.heap.size<=g)
    (hrow:∀j,j≠i->aP d' H j=aP d H j) (hc:c<13) (v0:Value) (hv:(bU d H)[c]?=some v0)
    (hl:(bU d H).set c (.slice (some ⟨g,0,none⟩) m cap')=bU d' (fI H i ⟨some ⟨g,0,none⟩,cap'⟩)) :
    w1.cell? ⟨b,o+c,none⟩=some v0/\w1.frozen? ⟨b,o+c,none⟩=false /\
    Hid (aN (w1.setCell ⟨b,o+c,none⟩ (.slice (some ⟨g,0,none⟩) m cap')) b t pre post d' (fI H i ⟨some ⟨g,0,none⟩,cap'⟩) /\
      aw b w H (w1.setCell ⟨b,o+c,none⟩ (.slice (some ⟨g,0,none⟩) m cap')) (fI H i ⟨some ⟨g,0,none⟩,cap'⟩)):=by
  have hk:=(hgr.block b h.lt (fun e=>h.off i e.symm)).trans h.blk;subst hr;refine⟨((aa hk (o+c)).trans (xh pre (bU d H) post o c ho hc)).trans hv,ak hk _,?_⟩
  exact h.put (d':=d') o c ho i hi ⟨some ⟨g,0,none⟩,cap'⟩ hw1 hgr
    (by rcases hfresh with e | e
        · exact Or.inr (Or.inl e.symm)
        · exact Or.inr (Or.inr ⟨g,rfl,by simpa using e⟩)) hrow _ hc hl
theorem zC(d:Db)(H:Nat->Hd)(l:List ByteArray):∀j,j≠0->aP { d with labels:=l } H j=aP d H j:=by
  intro j hne
  match j with
  | 0=>exact absurd rfl hne
  | 1=>rfl
  | 2=>rfl
  | 3=>rfl
  | 4=>rfl
  | 5=>rfl
  | 6=>rfl
  | 7=>rfl
  | 8=>rfl
  | 9=>rfl
  | n+10=>rfl
theorem up(d:Db)(H:Nat->Hd)(l:List ByteArray):∀j,j≠1->aP { d with constants:=l } H j=aP d H j:=by
  intro j hne
  match j with
  | 0=>rfl
  | 1=>exact absurd rfl hne
  | 2=>rfl
  | 3=>rfl
  | 4=>rfl
  | 5=>rfl
  | 6=>rfl
  | 7=>rfl
  | 8=>rfl
  | 9=>rfl
  | n+10=>rfl
theorem ub(d:Db)(H:Nat->Hd)(l:List ByteArray):∀j,j≠2->aP { d with variables:=l } H j=aP d H j:=by
  intro j hne
  match j with
  | 0=>rfl
  | 1=>rfl
  | 2=>exact absurd rfl hne
  | 3=>rfl
  | 4=>rfl
  | 5=>rfl
  | 6=>rfl
  | 7=>rfl
  | 8=>rfl
  | 9=>rfl
  | n+10=>rfl
theorem rV(d:Db)(H:Nat->Hd)(l:List ByteArray):∀j,j≠3->aP { d with active:=l } H j=aP d H j:=by
  intro j hne
  match j with
  | 0=>rfl
  | 1=>rfl
  | 2=>rfl
  | 3=>exact absurd rfl hne
  | 4=>rfl
  | 5=>rfl
  | 6=>rfl
  | 7=>rfl
  | 8=>rfl
  | 9=>rfl
  | n+10=>rfl
theorem s9(d:Db)(H:Nat->Hd)(l:List ByteArray):∀j,j≠4->aP { d with typed:=l } H j=aP d H j:=by
  intro j hne
  match j with
  | 0=>rfl
  | 1=>rfl
  | 2=>rfl
  | 3=>rfl
  | 4=>exact absurd rfl hne
  | 5=>rfl
  | 6=>rfl
  | 7=>rfl
  | 8=>rfl
  | 9=>rfl
  | n+10=>rfl
theorem rQ(d:Db)(H:Nat->Hd)(l:List (Nat×Nat)):∀j,j≠5->aP { d with blocks:=l } H j=aP d H j:=by
  intro j hne
  match j with
  | 0=>rfl
  | 1=>rfl
  | 2=>rfl
  | 3=>rfl
  | 4=>rfl
  | 5=>exact absurd rfl hne
  | 6=>rfl
  | 7=>rfl
  | 8=>rfl
  | 9=>rfl
  | n+10=>rfl
theorem yw(d:Db)(H:Nat->Hd)(l:List Nat):∀j,j≠7->aP { d with rbl:=l } H j=aP d H j:=by
  intro j hne
  match j with
  | 0=>rfl
  | 1=>rfl
  | 2=>rfl
  | 3=>rfl
  | 4=>rfl
  | 5=>rfl
  | 6=>rfl
  | 7=>exact absurd rfl hne
  | 8=>rfl
  | 9=>rfl
  | n+10=>rfl
theorem pV(d:Db)(H:Nat->Hd)(l:List ByteArray):∀j,j≠8->aP { d with symbols:=l } H j=aP d H j:=by
  intro j hne
  match j with
  | 0=>rfl
  | 1=>rfl
  | 2=>rfl
  | 3=>rfl
  | 4=>rfl
  | 5=>rfl
  | 6=>rfl
  | 7=>rfl
  | 8=>exact absurd rfl hne
  | 9=>rfl
  | n+10=>rfl
theorem ue(d:Db)(H:Nat->Hd)(l:List (ByteArray×Pl)):∀j,j≠9->aP { d with proof:=l } H j=aP d H j:=by
  intro j hne
  match j with
  | 0=>rfl
  | 1=>rfl
  | 2=>rfl
  | 3=>rfl
  | 4=>rfl
  | 5=>rfl
  | 6=>rfl
  | 7=>rfl
  | 8=>rfl
  | 9=>exact absurd rfl hne
  | n+10=>rfl
theorem EM(d:Db)(H:Nat->Hd)(l:Int):∀j,aP { d with kind:=l } H j=aP d H j:=by
  intro j
  match j with
  | 0=>rfl
  | 1=>rfl
  | 2=>rfl
  | 3=>rfl
  | 4=>rfl
  | 5=>rfl
  | 6=>rfl
  | 7=>rfl
  | 8=>rfl
  | 9=>rfl
  | n+10=>rfl
theorem AU(d:Db)(H:Nat->Hd)(l:ByteArray):∀j,aP { d with label:=l } H j=aP d H j:=by
  intro j
  match j with
  | 0=>rfl
  | 1=>rfl
  | 2=>rfl
  | 3=>rfl
  | 4=>rfl
  | 5=>rfl
  | 6=>rfl
  | 7=>rfl
  | 8=>rfl
  | 9=>rfl
  | n+10=>rfl
theorem xJ(d:Db)(H:Nat->Hd)(l:Bool):∀j,aP { d with inProof:=l } H j=aP d H j:=by
  intro j
  match j with
  | 0=>rfl
  | 1=>rfl
  | 2=>rfl
  | 3=>rfl
  | 4=>rfl
  | 5=>rfl
  | 6=>rfl
  | 7=>rfl
  | 8=>rfl
  | 9=>rfl
  | n+10=>rfl
def aI(l:List ByteArray)(x:ByteArray):Bool:=l.any (fun y=>y.toList==x.toList)
theorem C9(l:List ByteArray)(x:ByteArray)(k:Nat)(h:k<l.length)(he:aI l x=aI (l.drop k) x)(hb:((l[k]).toList==x.toList)=true):aI l x=true:=by
 rw[he,List.drop_eq_getElem_cons h];simp only[aI,List.any_cons,hb,Bool.true_or]
theorem zD(l:List ByteArray)(x:ByteArray)(k:Nat)(h:k<l.length)(he:aI l x=aI (l.drop k) x)(hb:((l[k]).toList==x.toList)=false):aI l x=aI (l.drop (k+1)) x:=by
 rw[he,List.drop_eq_getElem_cons h];simp only[aI,List.any_cons,hb,Bool.false_or]
theorem yx(l:List ByteArray)(x:ByteArray)(k:Nat)(h:¬k<l.length)(he:aI l x=aI (l.drop k) x):aI l x=false:=by
 rw[he,List.drop_of_length_le (by omega)];rfl
theorem p9(l:List ByteArray)(k:Nat)(h:k<l.length):(dN l)[k]?=some (.string l[k]):=by simp[dN,h]
theorem dR(hd:Hd)(l:List ByteArray)(x:ByteArray)(w:World)(ho:aA w hd (aD l))(hl:l.length<=1073741824) :
  Calls Tryz.prog 253 #[.slice hd.ao l.length hd.cap,.string x] w fun e w'=>e=.returned (.bool (aI l x))/\w'=w:=by
 obtain⟨ao,cap⟩:=hd
 rcases ho.ways with ⟨e0,h0,_⟩ | ⟨g,cur,e1,_⟩
 ·have h0':l.length=0:=h0
  have hl0:l=[]:=List.eq_nil_of_length_eq_zero h0';subst hl0
  injection e0 with e0 e2
  subst e0;clear ho h0 h0' hl e2;go_enter Tryz.func253,Tryz.ntmps253;go_wp2;refine wp_loop_rounds 1 ?_;rw[rounds_succ];go_wp2;go_ret;exact⟨rfl,rfl⟩
 ·simp only at e1
  subst e1;go_enter Tryz.func253,Tryz.ntmps253;go_wp2
  go_loopg [5] l.length (fun g i wr=>∃k:Nat,k<=l.length/\g=l.length-k/\i=.int .i64 k/\Hid (aI l x=aI (l.drop k) x)/\wr=w)
  case atStart=>exact⟨0,by omega,by omega,rfl,rfl,rfl⟩
  case round =>
   obtain⟨k,hk,hg,rfl,hs,rfl⟩:=hrel
   by_cases hlt:k<l.length
   ·have c1:=ho.cell rfl k (.string l[k]) (p9 l k hlt)
    cases hb:((l[k]).toList==x.toList)
    ·have HM:Hid (aI l x=aI (l.drop (k+1)) x):=zD l x k hlt hs.out hb
     clear hs ho;go_wp2
     go_roundg (l.length-(k+1))
     case measure=>omega
     case rel=>exact⟨k+1,by omega,rfl,by go_num,HM,rfl⟩
    ·have HM:Hid (aI l x=true):=C9 l x k hlt hs.out hb
     clear hs ho;go_wp2;go_ret;exact⟨aB HM.out.symm,rfl⟩
   ·have HM:Hid (aI l x=false):=yx l x k hlt hs.out
    clear hs ho;go_wp2;go_ret;exact⟨aB HM.out.symm,rfl⟩
theorem jI:(Tryz.prog.info? 9).map (fun i=>(i.zero,i.size,i.bytes))=some (some (.string ⟨#[]⟩),1,16):=by kernel_rfl
theorem DE(l:List ByteArray)(x:ByteArray):dN (l++[x])=dN l++[.string x]:=by simp[dN]
theorem dS(l:List ByteArray)(x:ByteArray):(⟨(aD l).e,(aD l).size,(aD l).n+1,(aD l).xs++[.string x]⟩:dK)=aD (l++[x]):=by
 simp[aD,DE]
set_option maxRecDepth 100000 in
theorem xP(b t o:Nat)(pre post:List Value)(d:Db)(H:Nat->Hd)(x:ByteArray)(w:World)(h:aN w b t pre post d H)(ho:pre.length=o)(hl:d.labels.length<=1073741824) :
  Calls Tryz.prog 264 #[.pointer (some ⟨b,o,none⟩),.string x] w fun e w'=>e=.returned (.tuple #[])/\∃H',aN w' b t pre post { d with labels:=d.labels++[x] } H'/\aw b w H w' H':=by
 obtain⟨i0,hi,hz0,hz1,hz2⟩:=info_parts jI;obtain⟨q0,q1,q2,q3,q4,q5,q6,q7,q8,q9,q10,q11,q12⟩:=h.cells o ho;have hfr:=h.free;have hbw:=h.lt;have hA:=h.still ((ab.refl [] w).alloc (.cells #[.string x] 9));have hownA:=hA.own 0;go_enter Tryz.func264,Tryz.ntmps264;go_wp2_with (at_builtin;refine aM _ rfl (.tmp 8) (.tmp 10) 61 rfl i0 (.string ⟨#[]⟩) 16 (H 0) (aD d.labels) Tryz.underlying61 hi hz0 hz1 hz2 rfl Nat.one_pos rfl hownA ⟨w.heap.size,0,none⟩ 1 1 [.string x] rfl rfl ?c1 ?c2 Nat.one_pos ?c3 ?c4 ?_)
 case c1=>intro j u hj;match j,hj with | 0,hj=>simp at hj;subst hj;simp[Addr.add]
 case c2=>intro u hu;simp at hu;subst hu;rfl
 case c3=>simp only[aD];unfold maxLen;omega
 case c4=>simp only[aD];omega
 ·intro g cap' w1 hw1 hgr hfresh
  obtain⟨k0,f0,HP⟩:=hA.app (d':={ d with labels:=d.labels++[x] }) o 0 ho 0 (by omega) g cap' ((aD d.labels).n+1) _ hw1 (dS d.labels x) hgr (by simpa using hfresh) (zC d H _) (by omega) _ rfl (by simp[bU,fI,aD]);simp only[Nat.add_zero]at k0 f0 HP;clear hA hownA q0 q1 q2 q3 q4 q5 q6 q7 q8 q9 q10 q11 q12 hw1 hgr hfresh hfr;go_wp2;go_end0;exact⟨rfl,_,HP.out.1,HP.out.2.first ((ab.refl [] w).alloc _)⟩
set_option maxRecDepth 100000 in
theorem wT(b t o:Nat)(pre post:List Value)(d:Db)(H:Nat->Hd)(x:ByteArray)(w:World)(h:aN w b t pre post d H)(ho:pre.length=o)(hl:d.typed.length<=1073741824) :
  Calls Tryz.prog 267 #[.pointer (some ⟨b,o,none⟩),.string x] w fun e w'=>e=.returned (.tuple #[])/\∃H',aN w' b t pre post { d with typed:=d.typed++[x] } H'/\aw b w H w' H':=by
 obtain⟨i0,hi,hz0,hz1,hz2⟩:=info_parts jI;obtain⟨q0,q1,q2,q3,q4,q5,q6,q7,q8,q9,q10,q11,q12⟩:=h.cells o ho;have hfr:=h.free;have hbw:=h.lt;have hA:=h.still ((ab.refl [] w).alloc (.cells #[.string x] 9));have hownA:=hA.own 4;go_enter Tryz.func267,Tryz.ntmps267;go_wp2_with (at_builtin;refine aM _ rfl (.tmp 8) (.tmp 10) 61 rfl i0 (.string ⟨#[]⟩) 16 (H 4) (aD d.typed) Tryz.underlying61 hi hz0 hz1 hz2 rfl Nat.one_pos rfl hownA ⟨w.heap.size,0,none⟩ 1 1 [.string x] rfl rfl ?c1 ?c2 Nat.one_pos ?c3 ?c4 ?_)
 case c1=>intro j u hj;match j,hj with | 0,hj=>simp at hj;subst hj;simp[Addr.add]
 case c2=>intro u hu;simp at hu;subst hu;rfl
 case c3=>simp only[aD];unfold maxLen;omega
 case c4=>simp only[aD];omega
 ·intro g cap' w1 hw1 hgr hfresh
  obtain⟨k0,f0,HP⟩:=hA.app (d':={ d with typed:=d.typed++[x] }) o 4 ho 4 (by omega) g cap' ((aD d.typed).n+1) _ hw1 (dS d.typed x) hgr (by simpa using hfresh) (s9 d H _) (by omega) _ rfl (by simp[bU,fI,aD])
  skip
  clear hA hownA q0 q1 q2 q3 q4 q5 q6 q7 q8 q9 q10 q11 q12 hw1 hgr hfresh hfr;go_wp2;go_end0;exact⟨rfl,_,HP.out.1,HP.out.2.first ((ab.refl [] w).alloc _)⟩
end Go.Proofs.YtpddjjabfbfifaaGreat
