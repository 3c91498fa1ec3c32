import Derived.Test.YtpddjjabfbfifaaGreatG06
namespace Go.Proofs.YtpddjjabfbfifaaGreat
open Go.RowKit Tryz
set_option maxHeartbeats 0
variable{n:Nat}{T:List St}(w:Nat)(x:Fs)(b:List St)(S:Nat->Hd)(H:Nat)(l:ByteArray)(f:World)
theorem nI.recd{w:World}{a:Fs}{H:Nat->Hd}{g:Nat}(h:nI w n a T H g):dF w n 10 T H:=by
 obtain⟨c,e,d,b⟩:=h.ver;exact⟨⟨_,_,b.1,rfl⟩,h.Vn⟩
theorem Jz(a:List St)(d:Nat->Hd)(b:World)(h:dF b w H a d)(f:a.length<=1073741824) :
  Calls prog 90 #[.pointer (some ⟨w,H,none⟩),.string l] b fun e i=>e=.returned (.int .i64 (nB (gC a l)))/\ab [] b i:=by
 have c:Hid _:=sG w H l a d b h f;go_enter func90,ntmps90;go_wp2_with fail;refine QU c.out ?_;rintro e j ⟨rfl,g⟩;go_wp2;go_ret;exact⟨rfl,g⟩
theorem E6(a:Nat)(l:List St)(f:Nat->Hd)(b:World)(h:dF b w H l f)(m:a<l.length)(p:iH l)(n:A7 l)(d:l[a].kind≠1) :
  Calls prog 60 #[.pointer (some ⟨w,H,none⟩),.int .i64 a] b fun e i=>∃g,e=.returned (.slice (some ⟨g,0,none⟩) (cW l a).length (cW l a).length)/\lI i g (cW l a) (cW l a).length/\b.heap.size<=g/\ab [] b i:=by
 have c:Hid _:=Es w H a l f b h m p n d;go_enter func60,ntmps60;go_wp2_with fail;refine QU c.out ?_;rintro e q ⟨g,rfl,j,k,o⟩;go_wp2;go_ret;exact⟨g,rfl,j,k,o⟩
theorem J7(h:nI f w x b S H)(m:b.length<=1073741824) :
  Calls prog 59 #[.pointer (some ⟨w,0,none⟩),.string l] f fun e q=>e=.returned (match gC b l with | some n=>.tuple #[.int .i64 n,.int .i64 0] | none=>.tuple #[.int .i64 0,.int .i64 8])/\ab [] f q:=by
 have a:Hid _:=Jz w 10 l b S f h.recd m;obtain⟨s,v,t,g⟩:=h.ver;obtain⟨u,i,j,k⟩:=iI.cells g;have p:=bi.lt g
 cases d:gC b l with
 | none =>
  rw[d]at a;simp only[nB]at a;go_enter func59,ntmps59;go_wp2_with fail;refine QU a.out ?_;rintro e r ⟨rfl,c⟩;go_wp2;go_ret2;exact⟨rfl,c⟩
 | some n =>
  rw[d]at a;simp only[nB]at a;have o:¬(n:Int)<0:=by omega
  go_enter func59,ntmps59;go_wp2_with fail;refine QU a.out ?_;rintro e r ⟨rfl,c⟩;go_wp2;go_ret2;exact⟨rfl,c⟩
def yb(l:List St)(lab:ByteArray)(w:World)(e:Ending)(w':World):Prop :=
 ab [] w w'/\match gC l lab with
  | some n=>∃g,e=.returned (.tuple #[.slice (some ⟨g,0,none⟩) (cW l n).length (cW l n).length,.int .i64 0])/\lI w' g (cW l n) (cW l n).length/\w.heap.size<=g
  | none=>e=.returned (.tuple #[.slice none 0 0,.int .i64 8])
theorem Lg{a:ByteArray}(h:gC T a=some n):∃h:n<T.length,qP T[n].kind=true/\T[n].label.toList=a.toList:=by
 unfold gC at h;have c:=Ra.1 (Rz h);have b:=Tm h;rw[yQ T a n c]at b;simp only[Bool.and_eq_true]at b;exact⟨c,b.2,by simpa using b.1⟩
theorem FE(h:nI f w x b S H)(o:iH b)(v:A7 b) :
  Calls prog 39 #[.pointer (some ⟨w,0,none⟩),.string l] f fun e z=>yb b l f e z:=by
 have m:=o.len;have c:=J7 w x b S H l f h (by omega);have u:=bi.lt (Um (Um (Um h.ver)));unfold yb
 cases i:gC b l with
 | none =>
  rw[i]at c;have a:Hid _:=c;clear c;go_enter func39,ntmps39;go_wp2_with fail;refine QU a.out ?_;rintro e p ⟨rfl,g⟩;go_wp2;go_ret2;exact⟨g,rfl⟩
 | some n =>
  rw[i]at c;obtain⟨s,k,-⟩:=Lg i;have j:b[n].kind≠1:=by intro e;rw[e]at k;revert k;decide
  have a:Hid _:=c;clear c;go_enter func39,ntmps39;go_wp2_with fail;refine QU a.out ?_;rintro e p ⟨rfl,g⟩;have d:=(h.Vb g).recd;have t:=d.lt;go_wp2_with fail;refine(E6 w 10 n b S p d s o v j).mono ?_;rintro e C ⟨q,rfl,r,A,y⟩;have B:=g.size;go_wp2;go_ret2;exact⟨g.trans y,q,rfl,r,by omega⟩
end Go.Proofs.YtpddjjabfbfifaaGreat
