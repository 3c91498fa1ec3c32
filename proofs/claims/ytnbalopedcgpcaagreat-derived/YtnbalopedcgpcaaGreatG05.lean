import Derived.Deep.RegionLaw
import Derived.Test.YtnbalopedcgpcaaGreatG04
namespace Go.Proofs.YtnbalopedcgpcaaGreat
open Go.RowKit Tryz
open Value renaming int->Xx,pointer->XA,agg->XB,tuple->XD
open Obj renaming cells->XE
open IntKind renaming i64->XF
open Ending renaming returned->XH
open Option renaming none->XJ,some->XK
open Bool renaming true->XL
open Go.RowKit renaming Hid->XN
open Go renaming Calls->XO,World->XP,Value->XQ
set_option maxHeartbeats 0
variable(w:List (Nat×Nat))(b:Nat×Nat)
theorem Ov:(prog.info? 273).map (fun i=>(i.zero,i.size,i.bytes))=XK (XK (XB #[Xx XF 0,Xx XF 0]),2,16):=by kernel_rfl
theorem nV:lZ (w++[b])=lZ w++[Xx XF b.1,Xx XF b.2]:=by simp[lZ]
theorem F7:(⟨(kh w).e,(kh w).size,(kh w).n+1,(kh w).xs++[Xx XF b.1,Xx XF b.2]⟩:fe)=kh (w++[b]):=by
 simp[kh,nV]
set_option maxRecDepth 100000
theorem se(b t o:Nat)(i c:List XQ)(d:Db)(H:Nat->Hd)(w:XP)(h:aO w b t i c d H)(y:i.length=o)(Q:d.blocks.length<=1073741824) :
  XO prog 181 #[XA (XK ⟨b,o,XJ⟩)] w fun e A=>e=XH (XD #[])/\∃s,aO A b t i c { d with blocks:=d.blocks++[(d.Uv.length,d.Uy.length)] } s/\aj b w H A s:=by
 obtain⟨G,D,p,q,r⟩:=Qq Ov;obtain⟨S,T,U,V,W,X,Y,Z,q8,q9,I,J,K⟩:=h.cells o y;have C:=h.free;have B:=h.lt;have x:XN (aO (w.alloc (XE #[Xx XF d.Uv.length,Xx XF d.Uy.length] 273)).drew b t i c d H):=h.Ur ((aa.refl [] w).alloc _).drew;have L:XN (∀j u,([Xx XF d.Uv.length,Xx XF d.Uy.length]:List XQ)[j]?=XK u->(w.alloc (XE #[Xx XF d.Uv.length,Xx XF d.Uy.length] 273)).drew.cell? ((⟨w.heap.size,0,XJ⟩:Addr).add j)=XK u):=by
  intro j u E;rw[ba];have F:(w.alloc (XE #[Xx XF d.Uv.length,Xx XF d.Uy.length] 273)).drew.heap[w.heap.size]?=XK (XE #[Xx XF d.Uv.length,Xx XF d.Uy.length] 273):=PM _ _;rw[ab F];simpa using E
 have M:XN (∀u∈([Xx XF d.Uv.length,Xx XF d.Uy.length]:List XQ),u.oneCell'=XL):=by
  intro u z;simp at z;rcases z with rfl | rfl <;> rfl
 have N:XN ((kh d.blocks).n+1<=maxLen):=by show _<=_;simp only[kh];unfold maxLen;omega
 have O:XN (((kh d.blocks).n+1)*16<=140737488355328):=by show _<=_;simp only[kh];omega
 clear h;go_enter func181,ntmps181;go_wp2_with fail;go_region_law (refine aP rfl (.tmp 6) (.tmp 18) 180 rfl G (XB #[Xx XF 0,Xx XF 0]) 16 (H 5) (kh d.blocks) underlying180 D p q r rfl Nat.two_pos (by simp[Act.eval] <;> rfl) (x.out.own 5) ⟨w.heap.size,0,XJ⟩ 1 1 [Xx XF d.Uv.length,Xx XF d.Uy.length] (by simp[Act.eval]) rfl L.out M.out Qf N.out O.out ?_;intro g k w1 m l a;obtain⟨R,P,v⟩:=x.out.app (d':={ d with blocks:=d.blocks++[(d.Uv.length,d.Uy.length)] }) o 5 y 5 (by omega) g k ((kh d.blocks).n+1) _ m (F7 d.blocks (d.Uv.length,d.Uy.length)) l (by simpa using a) (qX d H _) (by omega) _ rfl (by simp[bM,cX,kh]);clear m l a)
 all_goals go_wp2
 all_goals go_end0
 all_goals exact⟨rfl,_,v.out.1,v.out.2.first ((aa.refl [] w).alloc _).drew⟩
end Go.Proofs.YtnbalopedcgpcaaGreat
