import Derived.Test.YtpddjjabfbfifaaGreatG33
namespace Go.Proofs.YtpddjjabfbfifaaGreat
open Go.RowKit
set_option maxHeartbeats 40000000
theorem Kr:(Tryz.prog.info? 122).map (fun i=>(i.zero,i.size,i.bytes))=some (some (.agg #[.slice none 0 0,.int .i64 0,.string ⟨#[]⟩,.int .i64 0,.int .i64 0]),5,64):=by kernel_rfl
theorem Ja:(Tryz.prog.info? 38).map (fun i=>(i.zero,i.size,i.bytes))=some (some (.agg #[.string ⟨#[]⟩,.int .i64 0,.int .i64 0,.string ⟨#[]⟩,.int .i64 0,.int .i64 0]),6,64):=by kernel_rfl
theorem nR(L:List (jD×Hd))(x:jD×Hd):(⟨(fj L).e,(fj L).size,(fj L).n+1,(fj L).xs++Jr x⟩:dK)=fj (L++[x]):=jY _ _ _ _ _
theorem pv(L:List jL)(x:jL):(⟨(iI L).e,(iI L).size,(iI L).n+1,(iI L).xs++mT x⟩:dK)=iI (L++[x]):=jY _ _ _ _ _
theorem cG.keptS{α:Type}{w w':World}{ao:Option Addr}{s:Nat}{f:α->List Value}{L:List α}{S:List Nat}(h:cG w ao s f L)(k:ab S w w')(hS:∀g,ao=some ⟨g,0,none⟩->g∉S):cG w' ao s f L:=fun j x hx=>by
 obtain⟨g,e,hg,c⟩:=h j x hx;exact⟨g,e,Nat.lt_of_lt_of_le hg k.size,fun i u hu=>by rw[World.cell?_of_block (k.block g hg (hS g e))];exact c i u hu⟩
def Fr(w:World)(h1 h2:Hd)(x:jD×Hd):Prop:=∀g,x.2.ao=some ⟨g,0,none⟩->w.heap.size<=g/\h1.blk≠some g/\h2.blk≠some g
structure uU(w wr:World)(v b:Nat)(x0 x1:Value)(PS:List (jD×Hd))(h1:Hd)(RS:List jL)(h2:Hd):Prop where
 d:wr.heap[v]?=some (.cells #[x0,x1,.pointer (some ⟨b,0,none⟩),.slice h1.ao PS.length h1.cap,.slice h2.ao RS.length h2.cap] 85 (0,0))
 lt:v<w.heap.size
 o1:aA wr h1 (fj PS)
 o2:aA wr h2 (iI RS)
 f1:∀k,h1.blk=some k->w.heap.size<=k
 f2:∀k,h2.blk=some k->w.heap.size<=k
 ap:∀k,h1.blk=some k->h2.blk≠some k
 kept:ab [v] w wr
 q:∀x∈PS,cG wr x.2.ao 6 j5 x.1.st/\Fr w h1 h2 x
 ql:∀x∈PS,∀g,x.2.ao=some ⟨g,0,none⟩->g<wr.heap.size
variable {w wr w':World} {v b:Nat} {x0 x1:Value} {PS:List (jD×Hd)} {h1 h1':Hd} {RS:List jL} {h2 h2':Hd}
theorem mF{a c:World}{v:Nat}(k:ab [] a c):ab [v] a c:=k.mono (by simp)
theorem uU.still(a:uU w wr v b x0 x1 PS h1 RS h2)(k:ab [] wr w'):uU w w' v b x0 x1 PS h1 RS h2 :=
 ⟨k.get a.d (by simp),a.lt,a.o1.still k,a.o2.still k,a.f1,a.f2,a.ap,a.kept.trans (mF k),fun x hx=>⟨(a.q x hx).1.still k,(a.q x hx).2⟩,fun x hx g e=>Nat.lt_of_lt_of_le (a.ql x hx g e) k.size⟩
theorem uU.jds(a:uU w wr v b x0 x1 PS h1 RS h2):JU wr v b x0 x1 PS h1.ao h1.cap RS h2.ao h2.cap :=
 ⟨a.d,a.o1.srcG Js,fun x hx=>(a.q x hx).1,a.o2.srcG uC⟩
theorem wQ{h:Hd}{g:Nat}(e:h.ao=some ⟨g,0,none⟩):h.blk=some g:=by unfold Hd.blk;rw[e];rfl
theorem uU.addP(a:uU w wr v b x0 x1 PS h1 RS h2)(x:jD×Hd)(hx:cG wr x.2.ao 6 j5 x.1.st)(hf:Fr w h1 h2 x)(hl:∀g,x.2.ao=some ⟨g,0,none⟩->g<wr.heap.size)(g:bh wr w' h1 h1')(o:aA w' h1' (fj (PS++[x])))(m:Nat)(hm:m=PS.length+1) :
  uU w (w'.setCell ⟨v,3,none⟩ (.slice h1'.ao m h1'.cap)) v b x0 x1 (PS++[x]) h1' RS h2:=by
 have hv1:v∉h1.blk.toList:=fun hq=>by have:=a.f1 _ (aK hq);have:=a.lt;omega
 have d5:=g.kept.get a.d hv1;have hvw:v<wr.heap.size:=ae a.d;have kS:ab [v] w' (w'.setCell ⟨v,3,none⟩ (.slice h1'.ao m h1'.cap)):=(ab.refl _ _).setCell (Or.inl (by simp)) _
 have f1':∀k,h1'.blk=some k->w.heap.size<=k:=fun k hk=>by
  rcases g.blk with e | ⟨q,e,hq⟩
  ·exact a.f1 k (by rw[<-e];exact hk)
  ·rw[hk]at e;cases e;exact Nat.le_trans a.kept.size hq
 have all:∀y∈PS++[x],cG wr y.2.ao 6 j5 y.1.st/\Fr w h1 h2 y/\∀g,y.2.ao=some ⟨g,0,none⟩->g<wr.heap.size:=fun y hy=>by
  rcases List.mem_append.1 hy with h | h
  ·exact⟨(a.q y h).1,(a.q y h).2,a.ql y h⟩
  ·rw[List.mem_singleton]at h;subst h;exact⟨hx,hf,hl⟩
 refine⟨?_,a.lt,?_,?_,f1',a.f2,?_,?_,?_,?_⟩
 ·rw[ah d5 3]
  congr 2
  rw[hm,List.length_append];rfl
 ·exact o.aside (fun k hk e=>by have:=f1' k hk;have:=a.lt;omega) _ _
 ·exact(g.beside a.o2 (fun k hk hq=>a.ap k hq hk)).aside (fun k hk e=>by have:=a.f2 k hk;have:=a.lt;omega) _ _
 ·intro k hk hq
  rcases g.blk with e | ⟨q,e,hl⟩
  ·exact a.ap k (by rw[<-e];exact hk) hq
  ·have:=a.o2.lt hq
   rw[hk]at e;cases e;omega
 ·refine⟨g.kept.os.trans a.kept.os,g.kept.tape.trans a.kept.tape,g.kept.output.trans a.kept.output,?_,fun k hk hn=>?_⟩
  ·exact Nat.le_trans (Nat.le_trans a.kept.size g.kept.size) kS.size
  ·have h1:=a.kept.size
   have h2:=g.kept.size;rw[kS.block k (by omega) hn,g.kept.block k (by omega) (fun hq=>by have:=a.f1 _ (aK hq);omega),a.kept.block k hk hn]
 ·intro y hy
  obtain⟨s1,s2,s3⟩:=all y hy;refine⟨(s1.keptS g.kept (fun q e hq=>(s2 q e).2.1 (aK hq))).keptS kS (fun q e hq=>?_),fun q e=>⟨(s2 q e).1,fun hq=>?_,(s2 q e).2.2⟩⟩
  ·have:=(s2 q e).1
   have:=a.lt;simp at hq;omega
  ·rcases g.blk with e2 | ⟨r,e2,hl⟩
   ·exact(s2 q e).2.1 (by rw[<-e2];exact hq)
   ·have:=s3 q e
    rw[hq]at e2;cases e2;omega
 ·intro y hy q e
  have h1:=(all y hy).2.2 q e;have h2:=g.kept.size;have h3:=kS.size;omega
theorem uU.addR(a:uU w wr v b x0 x1 PS h1 RS h2)(x:jL)(g:bh wr w' h2 h2')(o:aA w' h2' (iI (RS++[x])))(m:Nat)(hm:m=RS.length+1) :
  uU w (w'.setCell ⟨v,4,none⟩ (.slice h2'.ao m h2'.cap)) v b x0 x1 PS h1 (RS++[x]) h2':=by
 have hv1:v∉h2.blk.toList:=fun hq=>by have:=a.f2 _ (aK hq);have:=a.lt;omega
 have d5:=g.kept.get a.d hv1;have hvw:v<wr.heap.size:=ae a.d;have kS:ab [v] w' (w'.setCell ⟨v,4,none⟩ (.slice h2'.ao m h2'.cap)):=(ab.refl _ _).setCell (Or.inl (by simp)) _
 have f2':∀k,h2'.blk=some k->w.heap.size<=k:=fun k hk=>by
  rcases g.blk with e | ⟨q,e,hq⟩
  ·exact a.f2 k (by rw[<-e];exact hk)
  ·rw[hk]at e;cases e;exact Nat.le_trans a.kept.size hq
 refine⟨?_,a.lt,?_,?_,a.f1,f2',?_,?_,?_,?_⟩
 ·rw[ah d5 4]
  congr 2
  rw[hm,List.length_append];rfl
 ·exact(g.beside a.o1 (fun k hk hq=>a.ap k hk hq)).aside (fun k hk e=>by have:=a.f1 k hk;have:=a.lt;omega) _ _
 ·exact o.aside (fun k hk e=>by have:=f2' k hk;have:=a.lt;omega) _ _
 ·intro k hk hq
  rcases g.blk with e | ⟨q,e,hl⟩
  ·exact a.ap k hk (by rw[<-e];exact hq)
  ·have:=a.o1.lt hk
   rw[hq]at e;cases e;omega
 ·refine⟨g.kept.os.trans a.kept.os,g.kept.tape.trans a.kept.tape,g.kept.output.trans a.kept.output,?_,fun k hk hn=>?_⟩
  ·exact Nat.le_trans (Nat.le_trans a.kept.size g.kept.size) kS.size
  ·have h1:=a.kept.size
   have h2:=g.kept.size;rw[kS.block k (by omega) hn,g.kept.block k (by omega) (fun hq=>by have:=a.f2 _ (aK hq);omega),a.kept.block k hk hn]
 ·intro y hy
  obtain⟨s1,s2⟩:=a.q y hy;have s3:=a.ql y hy;refine⟨(s1.keptS g.kept (fun q e hq=>(s2 q e).2.2 (aK hq))).keptS kS (fun q e hq=>?_),fun q e=>⟨(s2 q e).1,(s2 q e).2.1,fun hq=>?_⟩⟩
  ·have:=(s2 q e).1
   have:=a.lt;simp at hq;omega
  ·rcases g.blk with e2 | ⟨r,e2,hl⟩
   ·exact(s2 q e).2.2 (by rw[<-e2];exact hq)
   ·have:=s3 q e
    rw[hq]at e2;cases e2;omega
 ·intro y hy q e
  have h1:=a.ql y hy q e;have h2:=g.kept.size;have h3:=kS.size;omega
theorem KP(RS:List jL)(k:Nat)(h:k<RS.length)(u:Int):(RS.flatMap mT).set (k*6+1) (.int .i64 u)=(RS.set k { gN RS k with verdict:=u }).flatMap mT:=by
 induction RS generalizing k with
 | nil=>simp at h
 | cons r RS ih =>
  cases k with
  | zero=>rfl
  | succ k =>
   have e:(k+1)*6+1=6+(k*6+1):=by omega
   have e2:gN (r :: RS) (k+1)=gN RS k:=rfl;rw[e2,List.set_cons_succ,List.flatMap_cons,List.flatMap_cons,<-ih k (by simpa using h),e,List.set_append_right _ _ (by rw[uC];omega),uC]
   congr 2
   omega
theorem uU.put(a:uU w wr v b x0 x1 PS h1 RS h2){g:Nat}(hg:h2.ao=some ⟨g,0,none⟩)(k:Nat)(hk:k<RS.length)(u:Int):uU w (wr.setCell ⟨g,k*6+1,none⟩ (.int .i64 u)) v b x0 x1 PS h1 (RS.set k { gN RS k with verdict:=u }) h2:=by
 have hb:=wQ hg;have hgv:=a.f2 g hb;have hgl:=a.o2.lt hb;have hlt:=a.lt;have kS:ab [g] wr (wr.setCell ⟨g,k*6+1,none⟩ (.int .i64 u)):=(ab.refl _ _).setCell (Or.inl (by simp)) _;refine⟨?_,a.lt,?_,?_,a.f1,a.f2,a.ap,?_,?_,?_⟩
 ·rw[kS.get a.d (by simp;omega),List.length_set]
 ·exact a.o1.aside (fun q hq e=>a.ap q hq (by rw[e];exact hb)) _ _
 ·have:=a.o2.putAt hg (k*6+1) (.int .i64 u)
  have e:(⟨(iI RS).e,(iI RS).size,(iI RS).n,(iI RS).xs.set (k*6+1) (.int .i64 u)⟩:dK)=iI (RS.set k { gN RS k with verdict:=u }):=by
   show(⟨_,_,RS.length,(RS.flatMap mT).set (k*6+1) (.int .i64 u)⟩:dK)=_
   rw[KP RS k hk u];unfold iI kq;rw[List.length_set]
  rw[e]at this;exact this
 ·exact⟨kS.os.trans a.kept.os,kS.tape.trans a.kept.tape,kS.output.trans a.kept.output,Nat.le_trans a.kept.size kS.size,fun q hq hn=>by
   have:=a.kept.size;rw[kS.block q (by omega) (by simp;omega),a.kept.block q hq hn]⟩
 ·intro y hy
  exact⟨(a.q y hy).1.keptS kS (fun q e hq=>by simp at hq;subst hq;exact((a.q y hy).2 q e).2.2 hb),(a.q y hy).2⟩
 ·intro y hy q e
  exact Nat.lt_of_lt_of_le (a.ql y hy q e) kS.size
end Go.Proofs.YtpddjjabfbfifaaGreat
