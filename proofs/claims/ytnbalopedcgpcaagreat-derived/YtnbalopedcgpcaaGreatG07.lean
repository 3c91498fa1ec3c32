import Derived.BigQuiet
import Derived.Deep.RegionHeld3
import Derived.Test.YtnbalopedcgpcaaGreatG06
namespace Go.Proofs.YtnbalopedcgpcaaGreat
open Go.RowKit Tryz
open Value renaming int->Xx,string->Xy,slice->Xz,pointer->XA,agg->XB,tuple->XD
open Obj renaming cells->XE
open IntKind renaming i64->XF
open Ending renaming returned->XH
open World renaming cell?->XI
open Option renaming none->XJ,some->XK
open Bool renaming true->XL
open Go.RowKit renaming Hid->XN
open Go renaming Calls->XO,World->XP,Value->XQ
set_option maxHeartbeats 0
variable{w:XP}{b l:Nat}{f H:Nat->Hd}
def ov(d:Db)(p:Pl):Db:={ d with UD:=d.UD++[⟨d.kind,d.label,d.Um,d.Ux,p,0⟩] }
def dh(d:Db):Db:=if(d.kind==2)=XL/\1<d.Um.length then { d with Uy:=d.Uy++[d.Um.getD 1 ⟨#[]⟩] } else d
def bK(d:Db)(p:Pl):Db :=
 if(d.kind==7)=XL then { d with Uo:=d.Uo++d.Um }
 else if(d.kind==8)=XL then dx d d.Um.length
 else ov (dh d) p
theorem Dl{o:Nat}{c a:List XQ}{d:Db}(D:aO w b l c a d f)(k:c.length=o)(i:f 8=H 8)(j:f 9=H 9) :
  XI w ⟨b,o+8,XJ⟩=XK (Xx XF d.kind)/\XI w ⟨b,o+9,XJ⟩=XK (Xy d.label)/\XI w ⟨b,o+10,XJ⟩=XK (Xz (H 8).ao d.Um.length (H 8).cap)/\XI w ⟨b,o+12,XJ⟩=XK (Xz (H 9).ao d.Ux.length (H 9).cap):=by
 obtain⟨q,r,s,t,u,v,x,y,n,p,e,m,g⟩:=D.cells o k;rw[i]at e;rw[j]at g;exact⟨n,p,e,g⟩
theorem Dk{a:XP}{d:ByteArray}{g c:Int}(T:aj b w f a H)(B:w.heap[l]?=XK (XE #[Xy d,Xx XF g,Xx XF c] 67))(j:l≠b)(m:∀k,cD f k->k≠l) :
  XI a ⟨l,0,XJ⟩=XK (Xy d)/\XI a ⟨l,1,XJ⟩=XK (Xx XF g)/\XI a ⟨l,2,XJ⟩=XK (Xx XF c):=by
 have i:=T.1.get B (by rintro (e | e);exact j e;exact m _ e rfl);refine⟨?_,?_,?_⟩ <;> rw[ab i] <;> rfl
set_option maxRecDepth 100000
theorem yE(b t o:Nat)(j a:List XQ)(d:Db)(H:Nat->Hd)(f:ByteArray)(l c:Int)(w:XP)(h:aO w b t j a d H)(n:j.length=o)(hm:0<d.Um.length)(g:eu d 10000000) :
  XO prog 187 #[XA (XK ⟨b,o,XJ⟩),XB #[Xy f,Xx XF l,Xx XF c]] w fun e i=>e=XH (XD #[])/\∃H',aO i b t j a (bK d ⟨f,l,c⟩) H'/\aj b w H i H':=by
 obtain⟨W,R⟩:∃W,W=w.alloc (XE #[Xy f,Xx XF l,Xx XF c] 67):=⟨_,rfl⟩
 have K:aa [] w W:=by rw[R];exact(aa.refl [] _).alloc _
 have D:=h.Ur K;have Q:XN _:=R.symm;have B:W.heap[w.heap.size]?=XK (XE #[Xy f,Xx XF l,Xx XF c] 67):=by rw[R];exact PM _ _
 have u:w.heap.size≠b:=by have:=h.lt;omega
 have J:XN (∀k,cD H k->k≠w.heap.size):=fun k Y=>by have:=h.inlt Y;omega
 have y:=(show XN (eu d 100000000) from⟨by have:=g.Uu;omega,by have:=g.Uo;omega,by have:=g.Up;omega,by have:=g.Uv;omega,by have:=g.Uy;omega,by have:=g.blocks;omega,by have:=g.UD;omega,by have:=g.rbl;omega,by have:=g.Um;omega,by have:=g.Ux;omega⟩);clear R;obtain⟨q0,q1,q2,q3,q4,q5,q6,q7,q8,q9,p,A,C⟩:=D.cells o n;clear q0 q1 q2 q3 q4 q5 q6 q7 A;have am:=g.Um;cases S:(d.kind==7)
 ·cases k8:(d.kind==8)
  ·by_cases M:(d.kind==2)=XL/\1<d.Um.length
   ·have q:XN (bK d ⟨f,l,c⟩=ov { d with Uy:=d.Uy++[d.Um.getD 1 ⟨#[]⟩] } ⟨f,l,c⟩):=(by show bK d ⟨f,l,c⟩=_;unfold bK dh;rw[S,k8,PZ M];simp);obtain⟨N,v⟩:=M;have hx:d.Um.getD 1 ⟨#[]⟩=d.Um[1]:=(by rw[PK,PJ v];rfl);rw[hx]at q;have z:aE W (H 8) (au d.Um):=D.own 8;rcases z.UC with ⟨_,h0,_⟩ | ⟨g8,ag,e8,-,V,-⟩
    ·have:d.Um.length=0:=h0;omega
    ·have c1:=z.cell e8 1 (Xy d.Um[1]) (mL d.Um 1 v);rw[e8]at p;have ai:d.Um.length<=(H 8).cap:=V;have ap:=g.Uy;clear z hx;generalize d.Um[1]=x at *;go_enter func187,ntmps187;(go_upto_region 1 with fail);rw[Q.out];(go_upto_region 3 with fail);go_region_with (go_at_call 204;refine(wi b t o j a d H x _ (by exact D.Ur (aa.refl [] _).drew) n (by omega)).mono ?_;rintro e O ⟨rfl,m,E,r⟩)
     all_goals
      have s:=J;have P:=r.1.get (by exact B) (by rintro (e | e);exact u e;exact s.out _ e rfl);have ah:=ae B;have L:XN (∀k,cD m k->k≠w.heap.size):=fun k Y=>by
       rcases r.2 k Y with X | X
       ·exact s.out k X
       ·rintro rfl;have h2:W.heap.size<=w.heap.size:=X;omega
      have U:XN _:=(r.first (aa.refl [] _).drew).first K;clear q8 q9 p C c1 r D B;obtain⟨q0,q1,q2,q3,q4,q5,q6,q7,q8,q9,p,A,C⟩:=E.cells o n;clear q0 q1 q2 q3 q4 q5 q6 q7 A;simp only at q8 q9 p C;have p0:XI O ⟨w.heap.size,0,XJ⟩=XK (Xy f):=(by rw[ab P];rfl);have p1:XI O ⟨w.heap.size,1,XJ⟩=XK (Xx XF l):=(by rw[ab P];rfl);have p2:XI O ⟨w.heap.size,2,XJ⟩=XK (Xx XF c):=(by rw[ab P];rfl);have Z:=(show XN (eu { d with Uy:=d.Uy++[x] } 100000000) from⟨by have:=g.Uu;simp only;omega,by have:=g.Uo;simp only;omega,by have:=g.Up;simp only;omega,by have:=g.Uv;simp only;omega,by simp;omega,by have:=g.blocks;simp only;omega,by have:=g.UD;simp only;omega,by have:=g.rbl;simp only;omega,by have:=g.Um;simp only;omega,by have:=g.Ux;simp only;omega⟩)
     all_goals go_upto_region 4 with fail
     all_goals go_region_held3 (fun i=>XI i ⟨b,o+8,XJ⟩=XK (Xx XF d.kind)/\XI i ⟨b,o+9,XJ⟩=XK (Xy d.label)/\XI i ⟨b,o+10,XJ⟩=XK (Xz (m 8).ao d.Um.length (m 8).cap)/\XI i ⟨b,o+12,XJ⟩=XK (Xz (m 9).ao d.Ux.length (m 9).cap)/\XI i ⟨w.heap.size,0,XJ⟩=XK (Xy f)/\XI i ⟨w.heap.size,1,XJ⟩=XK (Xx XF l)/\XI i ⟨w.heap.size,2,XJ⟩=XK (Xx XF c)) (go_keep) (first | (go_at_call 205;refine(tF b t o j a { d with Uy:=d.Uy++[x] } m d.kind d.label f l c _ (by exact E.Ur (aa.refl [] _).drew) n Z.out).mono ?_;rintro e w9 ⟨rfl,T,F,I,G⟩;obtain⟨r8,r9,ac,ad⟩:=Dl F n (G 8 (by omega) (by omega)) (G 9 (by omega) (by omega));obtain⟨p0,p1,p2⟩:=Dk I (by exact P) u L.out))
     all_goals go_wp2
     all_goals go_end0
     all_goals exact⟨rfl,T,by rw[q.out];exact F,aj.trans U.out (I.first (aa.refl [] _).drew)⟩
   ·have q:XN (bK d ⟨f,l,c⟩=ov d ⟨f,l,c⟩):=(by show bK d ⟨f,l,c⟩=_;unfold bK dh;rw[S,k8,PV M];simp);cases N:(d.kind==2)
    rotate_left
    focus
     have v:¬1<d.Um.length:=fun hh=>M ⟨N,hh⟩
    all_goals
     clear M;go_enter func187,ntmps187;(go_upto_region 1 with fail);rw[Q.out];(go_upto_region 4 with fail);have p0:XI W ⟨w.heap.size,0,XJ⟩=XK (Xy f):=(by rw[ab B];rfl);have p1:XI W ⟨w.heap.size,1,XJ⟩=XK (Xx XF l):=(by rw[ab B];rfl);have p2:XI W ⟨w.heap.size,2,XJ⟩=XK (Xx XF c):=(by rw[ab B];rfl);go_region_held3 (fun i=>XI i ⟨b,o+8,XJ⟩=XK (Xx XF d.kind)/\XI i ⟨b,o+9,XJ⟩=XK (Xy d.label)/\XI i ⟨b,o+10,XJ⟩=XK (Xz (H 8).ao d.Um.length (H 8).cap)/\XI i ⟨b,o+12,XJ⟩=XK (Xz (H 9).ao d.Ux.length (H 9).cap)/\XI i ⟨w.heap.size,0,XJ⟩=XK (Xy f)/\XI i ⟨w.heap.size,1,XJ⟩=XK (Xx XF l)/\XI i ⟨w.heap.size,2,XJ⟩=XK (Xx XF c)) (go_keep) (first | (go_at_call 205;refine(tF b t o j a d H d.kind d.label f l c _ (by exact D.Ur (aa.refl [] _).drew) n y.out).mono ?_;rintro e w9 ⟨rfl,T,F,I,G⟩;obtain⟨r8,r9,ac,ad⟩:=Dl F n (G 8 (by omega) (by omega)) (G 9 (by omega) (by omega));obtain⟨p0,p1,p2⟩:=Dk I (by exact B) u J.out))
     all_goals go_wp2
     all_goals go_end0
     all_goals exact⟨rfl,T,by rw[q.out];exact F,(I.first (aa.refl [] _).drew).first K⟩
  ·have q:XN (bK d ⟨f,l,c⟩=dx d d.Um.length):=(by show bK d ⟨f,l,c⟩=_;unfold bK;rw[S,k8];simp);go_enter func187,ntmps187;(go_upto_region 1 with fail);rw[Q.out];go_wp2_with fail;go_region_with (go_at_call 203;refine(pX b t o j a d H _ (by exact D.Ur (aa.refl [] _).drew) n hm y.out).mono ?_;rintro e O ⟨rfl,m,E,r⟩)
   all_goals go_wp2
   all_goals go_end0
   all_goals exact⟨rfl,m,by rw[q.out];exact E,(r.first (aa.refl [] _).drew).first K⟩
 ·have q:XN (bK d ⟨f,l,c⟩={ d with Uo:=d.Uo++d.Um }):=by show bK d ⟨f,l,c⟩=_;unfold bK;rw[S];simp
  go_enter func187,ntmps187;go_upto_region 1 with fail
  rw[Q.out];go_wp2_with fail;go_region_with (go_at_call 202;refine(pW b t o j a d H _ (by exact D.Ur (aa.refl [] _).drew) n hm y.out).mono ?_;rintro e O ⟨rfl,m,E,r⟩)
  all_goals go_wp2
  all_goals go_end0
  all_goals exact⟨rfl,m,by rw[q.out];exact E,(r.first (aa.refl [] _).drew).first K⟩
end Go.Proofs.YtnbalopedcgpcaaGreat
