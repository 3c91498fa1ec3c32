import Derived.Deep.RegionHeld3
import Derived.Laws.OwnMore
import Derived.Test.YtlbhbocbakijbaaGreatG21
namespace Go.Proofs.YtlbhbocbakijbaaGreat
open Go.RowKit
set_option maxHeartbeats 0
theorem Bl{P:Program}(w:World)(t ty:TypeId)(i:TypeInfo)(z:Value)(bytes:Nat)(h:Hd)(r:eI)(h1:P.underlying t=some (.slice r.e))(h2:P.info? r.e=some i)(h3:i.zero=some z)(h4:i.size=r.size)(h5:i.bytes=bytes)(h6:z.cells.size=r.size)(h7:0<r.size)
  (hown:au w h r) (ao:Option Addr) (m c:Nat) (news:List Value) (hn:news.length=m*r.size) (hnone:ao=none->m=0/\c=0) (hc:∀ad,ao=some ad->∀j u,news[j]?=some u->w.cell? (ad.add j)=some u) (h1c:∀u∈news,u.oneCell'=true)
  (b1:r.n+m<=maxLen) (b2:(r.n+m)*bytes<=140737488355328) :
  ∃hd' w',(Builtin.append_ #[t,t] ty #[.slice h.ao r.n h.cap,.slice ao m c]).run P w=.ok (.slice hd'.ao (r.n+m) hd'.cap) w' /\
   au w' hd' ⟨r.e,r.size,r.n+m,r.xs++news⟩/\dO w w' h hd':=by
 cases ao with
 | none =>
  obtain⟨rfl,rfl⟩:=hnone rfl;have hnn:news=[]:=List.eq_nil_of_length_eq_zero (by simpa using hn);subst hnn;have hr:=run_append_owned_none (P:=P) w 0 t ty r.e i r.size h1 h2 (.slice h.ao r.n h.cap) r.n r.xs hown;exact⟨h,w,hr,by rw[List.append_nil];exact hown,dO.still (aa.refl _ _)⟩
 | some ad =>
  have hc:=hc ad rfl
  by_cases hm:0<m
  ·obtain⟨g,cap',w',q1,q2,q3,q4⟩:=kF w t ty i z bytes h r h1 h2 h3 h4 h5 h6 h7 hown ad m c news hn hc h1c hm b1 b2
   exact⟨⟨some ⟨g,0,none⟩,cap'⟩,w',q1,q2,dO.made q3 q4⟩
  ·have e:m=0:=by omega
   subst e;have hnn:news=[]:=List.eq_nil_of_length_eq_zero (by simpa using hn);subst hnn
   rcases hown.ways with ⟨e1,e2,e3⟩ | ⟨g,cur,e1,e2,e3,e4,e5,e6⟩
   ·refine⟨h,w,?_,?_,dO.still (aa.refl _ _)⟩
    ·rw[e1,e2]
     simp[Builtin.append_,run_underlying h1,sizeOf,typeInfo,h2,Builtin.lenOf,Builtin.firstCells,loadCells,loadCellsFrom]
    ·rw[List.append_nil,Nat.add_zero];exact hown
   ·obtain⟨w',hrun,hw,hgr⟩:=run_append_fits (P:=P) w 0 t ty r.e i r.size h1 h2 h4 g r.n h.cap r.xs (by have:=hown;unfold au at this;rw[e1]at this;exact this) ad 0 c [] hn hc h1c (by omega)
    have hbk:h.blk=some g:=by unfold Hd.blk;rw[e1];rfl
    exact⟨⟨some ⟨g,0,none⟩,h.cap⟩,w',by rw[e1,hrun],hw,dO.made (by rw[hbk];exact hgr) (Or.inl hbk)⟩
theorem lV{P:Program}(w:World){ops:Array Oper}{rest:List Oper}{o:Oper}{a:Act}{Q:Exit->Act->World->Prop}
  (hg:o.guard=none) (s x:Operand) (t:TypeId) (hop:o.op=Op.call { callee:=Callee.builtin Builtin.append,args:=#[s,x],argTypes:=#[t,t] })
  (i:TypeInfo) (z:Value) (bytes:Nat) (h:Hd) (r:eI) (h1:P.underlying t=some (.slice r.e)) (h2:P.info? r.e=some i) (h3:i.zero=some z) (h4:i.size=r.size) (h5:i.bytes=bytes) (h6:z.cells.size=r.size) (h7:0<r.size)
  (hs:a.eval s=.slice h.ao r.n h.cap) (hown:au w h r) (ao:Option Addr) (m c:Nat) (news:List Value) (hx:a.eval x=.slice ao m c) (hn:news.length=m*r.size) (hnone:ao=none->m=0/\c=0) (hc:∀ad,ao=some ad->∀j u,news[j]?=some u->w.cell? (ad.add j)=some u) (h1c:∀u∈news,u.oneCell'=true)
  (b1:r.n+m<=1000000000) (hb:bytes<=1000)
  (hK:∀h' w',au w' h' ⟨r.e,r.size,r.n+m,r.xs++news⟩->dO w w' h h'->wpList P ops Q rest (a.put o.dst (.slice h'.ao (r.n+m) h'.cap)) w') :
  wpList P ops Q (o :: rest) a w:=by
 obtain⟨hd',w',hrun,r1,r2⟩:=Bl (P:=P) w t o.type i z bytes h r h1 h2 h3 h4 h5 h6 h7 hown ao m c news hn hnone hc h1c (by unfold maxLen;omega) (Nat.le_trans (Nat.mul_le_mul b1 hb) (by omega));refine wpList_plain hg fun K hK'=>?_
 unfold Oper.wp;simp[execOp,hop,resolve,invoke,builtin,hs,hx,hrun,Result.andThen];exact hK' _ _ (hK hd' w' r1 r2)
end Go.Proofs.YtlbhbocbakijbaaGreat
