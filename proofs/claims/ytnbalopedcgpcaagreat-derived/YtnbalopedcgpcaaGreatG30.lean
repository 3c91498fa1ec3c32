import Derived.Deep.RegionHeld3
import Derived.Laws.OwnMore
import Derived.Test.YtnbalopedcgpcaaGreatG22
namespace Go.Proofs.YtnbalopedcgpcaaGreat
open Go.RowKit Tryz
open Value renaming slice->Xz
open Option renaming none->XJ,some->XK
open Bool renaming true->XL
open Go renaming World->XP,Value->XQ
set_option maxHeartbeats 0
variable{l:Program}{f:Array Oper}{b:Oper}{H:Act}{n:Exit->Act->XP->Prop}(w:XP)
theorem yh{P:Program}(t F:TypeId)(i:TypeInfo)(z:XQ)(d:Nat)(h:Hd)(r:fe)(B:P.underlying t=XK (.slice r.e))(C:P.info? r.e=XK i)(N:i.zero=XK z)(I:i.size=r.size)(O:i.bytes=d)(Q:z.cells.size=r.size)(R:0<r.size)(b:aE w h r)(A:Option Addr)(m c:Nat)(a:List XQ)(E:a.length=m*r.size)(l:A=XJ->m=0/\c=0)(D:∀p,A=XK p->∀j u,a[j]?=XK u->w.cell? (p.add j)=XK u)(v:∀u∈a,u.oneCell'=XL)(J:r.n+m<=maxLen)(K:(r.n+m)*d<=140737488355328) :
  ∃f o,(Builtin.append_ #[t,t] F #[Xz h.ao r.n h.cap,Xz A m c]).run P w=.ok (Xz f.ao (r.n+m) f.cap) o /\
   aE o f ⟨r.e,r.size,r.n+m,r.xs++a⟩/\fZ w o h f:=by
 cases A with
 | none =>
  obtain⟨rfl,rfl⟩:=l rfl;have k:a=[]:=Ql (by simpa using E);subst k;have T:=run_append_owned_none (P:=P) w 0 t F r.e i r.size B C (Xz h.ao r.n h.cap) r.n r.xs b;exact⟨h,w,T,by rw[QK];exact b,fZ.Ur (aa.refl _ _)⟩
 | some p =>
  have D:=D p rfl;by_cases S:0<m
  ·obtain⟨g,q,o,V,W,X,Y⟩:=mh w t F i z d h r B C N I O Q R b p m c a E D v S J K;exact⟨⟨XK ⟨g,0,XJ⟩,q⟩,o,V,W,fZ.made X Y⟩
  ·have e:m=0:=(by omega);subst e;have k:a=[]:=Ql (by simpa using E);subst k;rcases b.UC with ⟨s,H,M⟩ | ⟨g,L,s,H,M,Z,e5,e6⟩
   ·refine⟨h,w,?_,?_,fZ.Ur (aa.refl _ _)⟩
    ·rw[s,H];simp[Builtin.append_,run_underlying B,sizeOf,typeInfo,C,Builtin.lenOf,Builtin.firstCells,loadCells,loadCellsFrom]
    ·rw[QK,QT];exact b
   ·obtain⟨o,y,U,G⟩:=run_append_fits (P:=P) w 0 t F r.e i r.size B C I g r.n h.cap r.xs (by have:=b;unfold aE at this;rw[s]at this;exact this) p 0 c [] E D v (by omega);have x:h.blk=XK g:=(by unfold Hd.blk;rw[s];rfl);exact⟨⟨XK ⟨g,0,XJ⟩,h.cap⟩,o,by rw[s,y],U,fZ.made (by rw[x];exact G) (P0 x)⟩
theorem ju{g:List Oper}(S:b.guard=XJ)(s x:Operand)(t:TypeId)(D:b.op=Op.call { callee:=Callee.builtin Builtin.append,args:=#[s,x],argTypes:=#[t,t] })(i:TypeInfo)(z:XQ)(d:Nat)(h:Hd)(r:fe)(G:l.underlying t=XK (.slice r.e))(I:l.info? r.e=XK i)(J:i.zero=XK z)(L:i.size=r.size)(M:i.bytes=d)(N:z.cells.size=r.size)(O:0<r.size)(U:H.eval s=Xz h.ao r.n h.cap)(o:aE w h r)(v:Option Addr)(m c:Nat)(a:List XQ)(V:H.eval x=Xz v m c)(T:a.length=m*r.size)(k:v=XJ->m=0/\c=0)(R:∀E,v=XK E->∀j u,a[j]?=XK u->w.cell? (E.add j)=XK u)(A:∀u∈a,u.oneCell'=XL)(F:r.n+m<=1000000000)(Q:d<=1000)(P:∀y q,aE q y ⟨r.e,r.size,r.n+m,r.xs++a⟩->fZ w q h y->wpList l f n g (H.put b.dst (Xz y.ao (r.n+m) y.cap)) q) :
  wpList l f n (b :: g) H w:=by
 obtain⟨C,q,p,W,X⟩:=yh (P:=l) w t b.type i z d h r G I J L M N O o v m c a T k R A (by unfold maxLen;omega) (Qk (Q3 F Q) (by omega));refine wpList_plain S fun K B=>?_;unfold Oper.wp;simp[execOp,D,resolve,invoke,builtin,U,V,p,Result.andThen];exact B _ _ (P C q W X)
theorem tR{w:XP}{K:Act->XP->Prop}{E:Prop}(S:b.guard=XJ)(s x:Operand)(t:TypeId)(C:b.op=Op.call { callee:=Callee.builtin Builtin.append,args:=#[s,x],argTypes:=#[t,t] })(i:TypeInfo)(z:XQ)(d:Nat)(h:Hd)(r:fe)(G:l.underlying t=XK (.slice r.e))(I:l.info? r.e=XK i)(J:i.zero=XK z)(L:i.size=r.size)(M:i.bytes=d)(N:z.cells.size=r.size)(O:0<r.size)(U:H.eval s=Xz h.ao r.n h.cap)(q:aE w h r)(A:Option Addr)(m c:Nat)(a:List XQ)(W:H.eval x=Xz A m c)(T:a.length=m*r.size)(o:A=XJ->m=0/\c=0)(R:∀D,A=XK D->∀j u,a[j]?=XK u->w.cell? (D.add j)=XK u)(B:∀u∈a,u.oneCell'=XL)(F:r.n+m<=1000000000)(Q:d<=1000)(P:∀k g y,aE y ⟨k,g⟩ ⟨r.e,r.size,r.n+m,r.xs++a⟩->fZ w y h ⟨k,g⟩->K (H.put b.dst (Xz k (r.n+m) g)) y) :
  if Region.wanted b (yielded f H.tmps)=XL then Oper.wp l b H w K n else E:=by
 have V:Region.wanted b (yielded f H.tmps)=XL:=by simp[Region.wanted,S]
 rw[PZ V];obtain⟨p,y,v,X,Y⟩:=yh (P:=l) w t b.type i z d h r G I J L M N O q A m c a T o R B (by unfold maxLen;omega) (Qk (Q3 F Q) (by omega));unfold Oper.wp;simp[execOp,C,resolve,invoke,builtin,U,W,v,Result.andThen];exact P p.ao p.cap y X Y
end Go.Proofs.YtnbalopedcgpcaaGreat
