import Derived.Carry
import Derived.Test.YtnbalopedcgpcaaGreatI09
namespace Go.Proofs.YtnbalopedcgpcaaGreat
open Go.RowKit
set_option maxHeartbeats 0
section
open Go.ChangeShapes Go.WideShapes Go.ChangeAt Go.RowKit
open Go.ChangeMaps (open_string shut_string)
def sj:Prop:=∀(ao:Vt) (cap:Nat) (l:Vs) (a c d:Int) (w:World),l.length<=140737488351232->(∀x,x∈l->x.size<=140737488351232)->-9223372036854775808<=a->a<=9223372036854775807->-9223372036854775808<=c->c<=9223372036854775807->-9223372036854775808<=d->d<=9223372036854775807 ->
  (l.length=0∨∃b off,ao=some ⟨b,off,none⟩/\jZ w b off l) ->
  Calls Tryz.prog 4 #[.slice ao l.length cap,.int .i64 a,.int .i64 c,.int .i64 d] w fun e w'=>e=.returned (.bool true)/\Below w.heap.size w w'
set_option maxRecDepth 100000
theorem CW(X:sj)(L:Os)(d:L.Started)(H:Type)(b:TypeId×Value->H) :
  ReturnsInHanded {} Tryz.checked L 4 .any (Rows.itselfSpec.pre6 b Tryz.prog Tryz.f4 Rows.itselfRow.domain false) (Rows.itselfSpec.post b Tryz.prog Tryz.f4 false true false false):=by
 refine returnsInHanded_of_change_sized (C:=Tryz.checked) Zad d (by kernel_rfl) Tryz.func4
  (ChangeSpec.witness6 (enc:=b) (C:=Tryz.checked) false ⟨#[],#[.slice none 0 0,.int .i64 0,.int .i64 0,.int .i64 0],[]⟩ 8 (by kernel_rfl) (by kernel_rfl) (by kernel_rfl) (by kernel_rfl)) ?_
 intro W n f D N w c G _ u _;have s:(DataW.weightsEach Tryz.prog (Tryz.f4.params.toList++Rows.itselfSpec.plain.varTypes Tryz.prog) (D++N)).all (·<=reachBytes)=true:=u;have a:∀(j:Nat) t v,Tryz.f4.params[j]?=some t->f[j]?=some v->Value.okWide Tryz.prog W .any n t v:=c;have y:=G;obtain⟨p,q,r,S,rfl,T,ad⟩:=G;have F:DataW.TrodAll b Tryz.prog W 0 (fun _=>true) true Tryz.f4.params.toList f.toList D p:=r;rw[Tryz.params4]at F a s;obtain⟨v0,v1,v2,v3,d0,d1,d2,d3,p0,p1,p2,p3,rfl,rfl,rfl,E,O,P,R⟩:=trodAll_four F;obtain⟨rfl,rfl⟩:=trodVars_none S;obtain⟨M,K,o,rfl⟩:=okWide_slice Tryz.underlying22 (a 0 22 v0 rfl rfl);have I:=E;have B:∀x∈p0,x.block<W.heap.size:=by obtain⟨m,hm⟩:=I;exact DataW.trod_lt m _ _ _ hm
 obtain⟨l,U,V,z,A⟩:=Mo E s rfl rfl;obtain⟨n1,rfl,rfl,rfl,g⟩:=open_int Tryz.underlying3 (a 1 3 v1 rfl rfl) O;obtain⟨n2,rfl,rfl,rfl,i⟩:=open_int Tryz.underlying3 (a 2 3 v2 rfl rfl) P;obtain⟨n3,rfl,rfl,rfl,k⟩:=open_int Tryz.underlying3 (a 3 3 v3 rfl rfl) R;subst U;clear r c;refine(X M o l n1 n2 n3 W (by omega) z (bounds_i64 g).1 (bounds_i64 g).2 (bounds_i64 i).1 (bounds_i64 i).2 (bounds_i64 k).1 (bounds_i64 k).2 A).mono fun e W' ⟨he,bel⟩=>?_;subst he;exact⟨_,rfl,_,_,_,[],_,[],y,trodAll_mk1 (shut_bool Tryz.underlying4 _),(trodAll_mk4 (Below.trod Ua (by kernel_rfl) (of_decide_eq_true (by kernel_rfl)) I bel B) (shut_int Tryz.underlying3 g) (shut_int Tryz.underlying3 i) (shut_int Tryz.underlying3 k)),rfl,bel.frame _,fun h=>by cases h⟩
theorem IT(X:sj):Rows.itselfRow.holds Tryz.pinned (OpenSpec.ofChange Rows.itselfSpec) :=
 OpenClaim.holds_of_wide 4 Tryz.f4 rfl rfl rfl rfl rfl rfl rfl ⟨rfl,rfl,rfl,rfl,rfl⟩ rfl rfl rfl rfl rfl (by kernel_rfl) Tryz.func4 (by kernel_rfl)
  (of_decide_eq_true (by kernel_rfl)) (by unfold Func.isWrapper;first | (rw[if_pos (by decide +kernel)];kernel_rfl) | (rw[if_neg (by decide +kernel)];exact⟨rfl,rfl⟩))
  (fun c a H b _=>CW X c a H b)
end
end Go.Proofs.YtnbalopedcgpcaaGreat
